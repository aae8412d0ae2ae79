import PyProof.Rows.All
import Wide.All
import OpenK.AllK
import Wide.FinOn
import KE.DatumIndex
import HandS.ForMost
import HandS.ForExc
import HandS.ExcInit
import HandS.ExcIs
import HandS.ExcField
import HandS.IsInst
import HandS.Wide
import HandS.WideBits
import HandS.AnyAll
import HandS.Walk
import HandS.Conv
import HandS.TupAny
import KE.GoesEnumKw
import HandS.Zip
import HandS.TupLe
import HandS.ListEq
import HandS.Comp
import HandS.EndTab
import PySem.Challenge.RW_gentlerounds_k02_names_paths_and_values
import HandS.Gcd
import HandS.StrMore
import HandS.Dict
import KE.OsRunLaw
set_option Elab.async false
set_option maxRecDepth 100000
set_option maxHeartbeats 4000000
set_option linter.all false
/-! Ours: defs that are entered where no repr is under way (FnQ), their calls and bodies; repr of data. -/
namespace Gr
open PySem PySem.Spec PyProof.Rows L2

/-- a def's promise, for calls where no repr is under way -/
structure FnQ (P : Program) (w : World) (K : PySem.W.Frag) (mg : Str → Option Value) (base : Heap) (CX : CXT) (k : Nat)
    (f : Addr) (fd : FuncData) (ps : List Str) (sp : Sp) : Prop where
  len : ∀ vs H Q E, sp vs H Q E → vs.length = ps.length
  run : ∀ (A : Around) (outer : List Env) (s : Shared) (H : Hp) (args : Args) (us : List Value) (vs : List V) (Q : VK) (E : XK),
    A.guards = some [] → Room k A → Env0 P w K mg base A outer s H → BindsTo s fd args (ps.zip us) → Vals vs us → sp vs H Q E →
    codeAny (model P w) A (.call (.ref f) args) (CR CX outer P w H s Q E) s

section
variable {P : Program} {w : World} {K : PySem.W.Frag} {mg : Str → Option Value} {base : Heap}

theorem fnQ_fn {CX : CXT} {k : Nat} {f : Addr} {fd : FuncData} {ps : List Str} {sp : Sp}
    (F : FnOk P w K mg base CX k f fd ps sp) : FnQ P w K mg base CX k f fd ps sp :=
  ⟨F.len, fun A outer s H args us vs Q E _ => F.run A outer s H args us vs Q E⟩

/-- such a def by its body -/
theorem fnQ_of {CX : CXT} {k : Nat} {f : Addr} {nm ql : Str} {par : Arguments} {bd : List Stmt} {sc : Scope}
    {dV kV doc pm cdv ct oc : Value} {an od : Option Addr} {osl : Array (Option Value)} {N ps : List Str} {sp : Sp}
    (lk : K.lookup f = some ⟨oc, od, .func (PySem.W.fnOf nm ql par bd sc dV kV doc pm an cdv ct), osl⟩)
    (hcd : PySem.W.codeIn K cdv ql = true) (S : FnScope N ps sc)
    (len : ∀ vs H Q E, sp vs H Q E → vs.length = ps.length)
    (hb : ∀ (A : Around) (outer : List Env) (s : Shared) (H : Hp) (vs : List V) (Q : VK) (E : XK), A.guards = some [] →
      Room k (A.deeper (envOfC ql sc s.heap.objs.size f cdv)) → sp vs H Q E →
      ∃ t, PSs (cxOf CX P w K mg base N ql sc f cdv A outer s H E) bd t ∧
        t { nx := fun _ H' => Q .non H', rt := Q } (start N vs) H) :
    FnQ P w K mg base CX (k + 1) f (PySem.W.fnOf nm ql par bd sc dV kV doc pm an cdv ct) ps sp := by
  refine ⟨len, fun A outer s H args us vs Q E hgu hr e0 hbi r hsp => ?_⟩
  have hlen := len _ _ _ _ hsp
  have keepB : ∀ b o, base.get? b = some o → s.heap.get? b = some o := fun b o e => (e0.bs b o e).1
  have KX : K.In s.heap := e0.mod.kin.keeps keepB
  have lim : s.heap.NoLimit := e0.mod.nolimit.keeps keepB
  refine codeAny_call_function hr.depth (KX _ _ lk) rfl S.co S.gen rfl (PySem.W.codeRec_of KX hcd) (hbi _ _ _ _ ?_)
  refine wpAny_newFunctionEnv_cells S.kind (fun ⟨n, v⟩ hy => ?_) fun env he s1 x => ?_
  · exact (S.par n (List.of_mem_zip hy).1).elim .inl fun q => .inr ⟨q, PySem.W.cellsFrom_some _ _ _ (.inl q)⟩
  subst he
  refine ⟨lim.keeps x.toInCall.keep, codeAny_func ?_⟩
  obtain ⟨t, ht, hq⟩ := hb A outer s H vs Q E hgu (hr.deeper _) hsp
  have I := inv_start (CX := CX) (E := E) S hr.hd e0 hlen r x
  refine wpAny_mono (ht.run [] s1 (start N vs) H _ I hq) (fun fl s' hs => ?_) fun e s' hs => hs
  cases fl with
  | ret u =>
    obtain ⟨v, σ', H', J, rv, q⟩ := hs
    exact ⟨v, H', J.os, J.bare, J.base, J.hok, rv, q⟩
  | next =>
    obtain ⟨σ', H', J, q⟩ := hs
    exact ⟨V.non, H', J.os, J.bare, J.base, J.hok, rfl, q⟩
  | brk =>
    obtain ⟨_, _, _, q⟩ := hs
    exact q.elim
  | cont =>
    obtain ⟨_, _, _, q⟩ := hs
    exact q.elim

/-- the same in the words of Fun -/
theorem funQ {x ql : Str} {st : Stmt} {f : Addr} {fd : FuncData} {N ps : List Str} {k : Nat} {sp : Sp} (F : Fun K x ql st f fd)
    (S : FnScope N ps (defScope st)) (len : ∀ vs H Q E, sp vs H Q E → vs.length = ps.length)
    (hb : ∀ (cdv : Value) (A : Around) (outer : List Env) (s : Shared) (H : Hp) (vs : List V) (Q : VK) (E : XK), A.guards = some [] →
      Room k (A.deeper (envOfC ql (defScope st) s.heap.objs.size f cdv)) → sp vs H Q E →
      ∃ t, PSs (cxOf CX0 P w K mg base N ql (defScope st) f cdv A outer s H E).nox (defBody st) t ∧
        t { nx := fun _ H' => Q .non H', rt := Q } (start N vs) H) : FnQ P w K mg base CX0 (k + 1) f fd ps sp := by
  obtain ⟨oc, od, kV, doc, pm, an, cdv, ct, osl, rfl, lk, hcd⟩ := F.ex
  refine fnQ_of lk hcd S len fun A outer s H vs Q E hgu hr hsp => ?_
  obtain ⟨t, h, q⟩ := hb cdv A outer s H vs Q E hgu hr hsp
  exact ⟨t, h.nox, q⟩
/-- .. where exceptions may run within the body (a try) -/
theorem funQx {x ql : Str} {st : Stmt} {f : Addr} {fd : FuncData} {N ps : List Str} {k : Nat} {sp : Sp} {CX : CXT} (F : Fun K x ql st f fd)
    (S : FnScope N ps (defScope st)) (len : ∀ vs H Q E, sp vs H Q E → vs.length = ps.length)
    (hb : ∀ (cdv : Value) (A : Around) (outer : List Env) (s : Shared) (H : Hp) (vs : List V) (Q : VK) (E : XK), A.guards = some [] →
      Room k (A.deeper (envOfC ql (defScope st) s.heap.objs.size f cdv)) → sp vs H Q E →
      ∃ t, PSs (cxOf CX P w K mg base N ql (defScope st) f cdv A outer s H E) (defBody st) t ∧
        t { nx := fun _ H' => Q .non H', rt := Q } (start N vs) H) : FnQ P w K mg base CX (k + 1) f fd ps sp := by
  obtain ⟨oc, od, kV, doc, pm, an, cdv, ct, osl, rfl, lk, hcd⟩ := F.ex
  exact fnQ_of lk hcd S len fun A outer s H vs Q E hgu hr hsp => hb cdv A outer s H vs Q E hgu hr hsp
end

section
variable {X : Cx} {CX : CXT} {k : Nat} {f : Addr} {fd : FuncData} {ps : List Str} {sp : Sp} {dvs : List V} {ds : List Value} {E : XK} {x : Str} {p pos : Pos} {e : Expr} {es : List Expr} {t : TA}
theorem run_fnQ {pins : List (Addr × Obj)} {σ : L2.St} {H : Hp} {s : Shared} {Q : VK} {us : List Value} {vs : List V} (hgu : X.A.guards = some [])
    (F : FnQ X.prog X.w X.K X.mg X.base CX k f fd ps sp) (hr : Room k X.A) (hb : Binds X.K fd ps ds) (hd : Vals dvs ds) (hx : Passes CX X E)
    (I : Inv X pins σ H s) (r : Vals vs us) (h : sp (vs ++ dvs) H Q E) : wpAny (model X.prog X.w) X.A (call (.ref f) us) (EP X pins σ Q) X.xe s := by
  have r2 := Vals.append r hd
  have hl : (us ++ ds).length = ps.length := (r2.length).symm.trans (F.len _ _ _ _ h)
  refine wpAny_call (codeAny_mono (F.run X.A X.stack s H ⟨us, []⟩ (us ++ ds) (vs ++ dvs) Q E hgu hr I.env0 (hb s us I.kIn hl) r2 h) fun rr s' hq => ?_)
  match rr, hq with
  | .error e, hq => exact hx pins σ H s e s' I hq
  | .ok (.ret u), hq => exact I.after hq
/-- f(e, ..) -/
theorem pe_callQ (hgu : X.A.guards = some []) (F : FnQ X.prog X.w X.K X.mg X.base CX k f fd ps sp) (hr : Room k X.A) (hg : Gl X x) (hm : X.mg x = some (.ref f))
    (hk : PySem.W.keepIn X.K (.ref f) = true) (hb : Binds X.K fd ps ds) (hd : Vals dvs ds) (hx : Passes CX X E) (ha : PA X (e :: es) t)
    (hdb : (x == ("__debug__" : Str)) = false := by decide) (he : starEach (e :: es) X.env = (false, eval e X.env) :: starEach es X.env := by rfl)
    (hpl : (backTo pos (starEach es X.env)).any (·.1) = false := by rfl) : PE X (.Call (.Name x p) (e :: es) [] pos) (tCall sp dvs E t) :=
  ⟨fun pins s σ H Q I h => wpAny_Call_Name_kw (ld_glob I hg hm (PySem.W.callWith_K (h₀ := X.base) I.ok.mod.kin hk
    (thn (ha.run pos pins s σ H _ I h) fun us s1 ⟨vs, H1, I1, r, q⟩ => ⟨I1.kIn, run_fnQ hgu F hr hb hd hx I1 r q⟩) he hpl) hdb)⟩
end
end Gr

set_option Elab.async false
set_option maxRecDepth 100000
set_option maxHeartbeats 4000000
set_option linter.all false
/-! Ours: repr of data (lists, tuples, dicts of int and text keys, nested), where no repr is under way. -/
namespace Gr
open PySem PySem.Spec PyProof.Rows L2

mutual
/-- the value v holds the data d -/
inductive Dq (K : PySem.W.Frag) (H : Hp) : V → PyData → Prop
  | non : Dq K H .non .none
  | bl (b : Bool) : Dq K H (.bl b) (.bool b)
  | int (i : Int) : Dq K H (.int i) (.int i)
  | str (x : Str) : Dq K H (.str x) (.str x)
  | lst {a : Addr} {xs : List V} {ds : List PyData} : SqL K H a xs → DqAll K H xs ds → Dq K H (.ref a) (.list ds)
  | tup {a : Addr} {xs : List V} {ds : List PyData} : SqT K H a xs → DqAll K H xs ds → Dq K H (.ref a) (.tuple ds)
  | dic {a : Addr} {kvs : List (Key × V)} {ds : List (PyData × PyData)} : H a = some (.dK kvs) →
      DqAll K H (kvs.map fun p => kV p.1) (ds.map (·.1)) → DqAll K H (kvs.map (·.2)) (ds.map (·.2)) → Dq K H (.ref a) (.dict ds)
inductive DqAll (K : PySem.W.Frag) (H : Hp) : List V → List PyData → Prop
  | nil : DqAll K H [] []
  | cons {v : V} {vs : List V} {d : PyData} {ds : List PyData} : Dq K H v d → DqAll K H vs ds → DqAll K H (v :: vs) (d :: ds)
end

theorem SqT_same {K : PySem.W.Frag} {H H' : Hp} {a : Addr} {xs : List V} (e : Same H H') (h : SqT K H a xs) : SqT K H' a xs := by
  rcases h with (h | ⟨o, h⟩) | h
  · exact .inl (.inl (e _ _ h))
  · exact .inl (.inr ⟨o, e _ _ h⟩)
  · exact .inr h
/-- what more is tracked changes no data -/
theorem Dq.same {K : PySem.W.Frag} {H H' : Hp} {v : V} {d : PyData} (e : Same H H') (h : Dq K H v d) : Dq K H' v d :=
  Dq.rec (motive_1 := fun v d _ => Dq K H' v d) (motive_2 := fun vs ds _ => DqAll K H' vs ds)
    .non .bl .int .str (fun hs _ ih => .lst (e.seq hs) ih) (fun hs _ ih => .tup (SqT_same e hs) ih)
    (fun hd _ _ i1 i2 => .dic (e _ _ hd) i1 i2) .nil (fun _ _ i1 i2 => .cons i1 i2) h
theorem DqAll.rep {K : PySem.W.Frag} {H : Hp} {v : V} {d : PyData} (h : Dq K H v d) : ∀ n : Nat, DqAll K H (List.replicate n v) (List.replicate n d)
  | 0 => .nil
  | n + 1 => .cons h (DqAll.rep h n)

theorem keys_of_pairs {P : Program} {w : World} : ∀ {es : List DictEntry} {kvs : List (Key × Value)}, Pairs (mixKind P w) es kvs → Vals (kvs.map fun p => kV p.1) (es.map (·.key))
  | _, _, .nil => .nil
  | _, _, .cons h _ t => by
    refine .cons ?_ (keys_of_pairs t)
    rcases keyIs_shape h with ⟨i, t, e1, e2⟩ | ⟨x, t, e1, e2⟩
    · dsimp only
      rw [e1, e2]
      exact ⟨t, rfl⟩
    · dsimp only
      rw [e1, e2]
      exact ⟨t, rfl⟩
theorem vals_of_pairs {P : Program} {w : World} : ∀ {es : List DictEntry} {kvs : List (Key × Value)}, Pairs (mixKind P w) es kvs → es.map (·.val) = kvs.map (·.2)
  | _, _, .nil => rfl
  | _, _, .cons _ h t => by rw [List.map_cons, List.map_cons, h, vals_of_pairs t]
theorem kv_keys : ∀ {kvs : List (Key × V)} {vs : List (Key × Value)}, KV kvs vs → kvs.map (fun p => kV p.1) = vs.map (fun p => kV p.1)
  | _, _, .nil => rfl
  | _, _, .cons h t => by rw [List.map_cons, List.map_cons, h.1, kv_keys t]
theorem kv_vals : ∀ {kvs : List (Key × V)} {vs : List (Key × Value)}, KV kvs vs → Vals (kvs.map (·.2)) (vs.map (·.2))
  | _, _, .nil => .nil
  | _, _, .cons h t => .cons h.2 (kv_vals t)

/-- sys.modules is a dict of the written part -/
def SysM (K : PySem.W.Frag) : Prop := ∃ o es n, K.lookup sysModules = some o ∧ o.data = .dict es n

section
variable {X : Cx} {pins : List (Addr × Obj)} {σ : L2.St} {H : Hp} {s : Shared}
theorem Dq.reads (I : Inv X pins σ H s) {v : V} {d : PyData} (h : Dq X.K H v d) : ∀ u : Value, RelV v u → ∃ as, Reads s.heap u d as ∧ (SysM X.K → sysModules ∉ as) := by
  refine Dq.rec (motive_1 := fun v d _ => ∀ u : Value, RelV v u → ∃ as, Reads s.heap u d as ∧ (SysM X.K → sysModules ∉ as))
    (motive_2 := fun vs ds _ => ∀ us : List Value, Vals vs us → ∃ as, ReadsAll s.heap us ds as ∧ (SysM X.K → sysModules ∉ as)) ?_ ?_ ?_ ?_ ?_ ?_ ?_ ?_ ?_ h
  · intro u r
    cases r
    exact ⟨_, .none, fun _ z => nomatch z⟩
  · intro b u r
    cases r
    exact ⟨_, .bool b, fun _ z => nomatch z⟩
  · intro i u r
    obtain ⟨t, rfl⟩ := r
    exact ⟨_, .int i t, fun _ z => nomatch z⟩
  · intro x u r
    obtain ⟨t, rfl⟩ := r
    exact ⟨_, .str x t, fun _ z => nomatch z⟩
  · intro a xs ds hs _ ih u r
    cases r
    obtain ⟨its, rv, ⟨o, n, ho, hc, _, hd⟩, _⟩ := I.list hs
    obtain ⟨as, hr, hm⟩ := ih its rv
    refine ⟨_, .list ho hc hd hr, fun M z => ?_⟩
    rcases List.mem_cons.mp z with z | z
    · obtain ⟨o', es, n', e1, e2⟩ := id M
      have e3 := I.kIn _ _ e1
      rw [z, ho] at e3
      cases e3
      rw [hd] at e2
      cases e2
    · exact hm M z
  · intro a xs ds hs _ ih u r
    cases r
    obtain ⟨its, rv, ⟨o, ho, hc, n, hd⟩, _⟩ := I.tuple hs
    obtain ⟨as, hr, hm⟩ := ih its rv
    exact ⟨_, .tuple ho hc hd hr, hm⟩
  · intro a kvs ds hd _ _ i1 i2 u r
    cases r
    obtain ⟨_, hsm, vs, kv, o, es, ep, ho, hx, hdt, _, hp, _⟩ := (show ObjOk X.prog X.w H s.heap a (.dK kvs) from I.hok a _ hd)
    obtain ⟨as, r1, m1⟩ := i1 (es.toList.map (·.key)) (by rw [kv_keys kv]; exact keys_of_pairs hp)
    obtain ⟨bs, r2, m2⟩ := i2 (es.toList.map (·.val)) (by rw [vals_of_pairs hp]; exact kv_vals kv)
    refine ⟨_, .dict ho hx.1 hdt r1 r2, fun M z => ?_⟩
    rcases List.mem_append.mp z with z | z
    · rcases List.mem_cons.mp z with z | z
      · rw [← z] at hsm
        exact absurd hsm (by decide)
      · exact m1 M z
    · exact m2 M z
  · intro us r
    cases r
    exact ⟨_, .nil, fun _ z => nomatch z⟩
  · intro v vs d ds _ _ i1 i2 us r
    cases r with
    | cons ra rr =>
      obtain ⟨as, q1, m1⟩ := i1 _ ra
      obtain ⟨bs, q2, m2⟩ := i2 _ rr
      refine ⟨_, .cons q1 q2, fun M z => ?_⟩
      rcases List.mem_append.mp z with z | z
      · exact m1 M z
      · exact m2 M z
end

/-- repr(x), x data -/
def rRepr (K : PySem.W.Frag) : List V → Hp → VK → Prop := fun xs H Q => ∃ v d, xs = [v] ∧ Dq K H v d ∧ d.showable = true ∧ d.depth ≤ 60 ∧ d.shown.length ≤ sizeLine ∧ Q (.str d.shown) H

theorem repr_ref_only {h : Heap} {d : PyData} {a : Addr} {as : List Addr} (r : Reads h (.ref a) d as) : True := trivial
section
variable {X : Cx}
theorem call_reprD (hgu : X.A.guards = some []) (hu : X.A.units + 64 < cLine) (hM : SysM X.K) : CallR X (.builtin "repr") (rRepr X.K) := by
  intro pins s σ H xs us Q I r h
  obtain ⟨v, d, rfl, hd, hs, hdp, hz, q⟩ := h
  obtain ⟨u, rfl, ru⟩ := vals1 r
  obtain ⟨as, hr, hm⟩ := hd.reads I u ru
  have fin : ∀ h' tk t, (∀ b o, s.heap.get? b = some o → h'.get? b = some o) → EP X pins σ Q (.str d.shown t) { s with heap := h', toks := tk } :=
    fun h' tk t hk => ⟨.str d.shown, H, I.kept hk, ⟨_, rfl⟩, q⟩
  cases v with
  | ref a =>
    cases (show u = Value.ref a from ru)
    exact repr_of_reads' hr hs (fun _ => hm hM) hgu (by omega) (fun _ _ e => e) (fun h' t tk hk => fin h' tk t hk) hz
  | non =>
    cases hd
    cases (show u = Value.none from ru)
    exact PySem.P.repr_of_none (fin s.heap _ _ fun _ _ e => e)
  | bl b =>
    cases hd
    cases (show u = Value.bool b from ru)
    exact PySem.P.repr_of_bool (fin s.heap _ _ fun _ _ e => e)
  | int i =>
    cases hd
    obtain ⟨t, e⟩ := (show ∃ t, u = Value.int i t from ru)
    subst e
    exact PySem.P.repr_of_int (by simpa [PyData.showable] using hs) (fin s.heap _ _ fun _ _ e => e)
  | str x =>
    cases hd
    obtain ⟨t, e⟩ := (show ∃ t, u = Value.str x t from ru)
    subst e
    exact PySem.P.repr_of_str (fin s.heap _ _ fun _ _ e => e) (by simpa [PyData.shown] using hz)
  | byt b => cases hd
  | flt b => cases hd
  | ty n => cases hd
end
end Gr

set_option Elab.async false
set_option maxRecDepth 100000
set_option maxHeartbeats 4000000
set_option linter.all false
/-! Ours: all(..) of a generator expression over a text's signs whose element may read names of the module. -/
namespace Gr
open PySem PySem.Spec PyProof.Rows L2 GxR

/-- the element tells pb of the sign; the running def's module is at hand -/
def EltG (X : Cx) (scope : Scope) (x : Str) (elt : Expr) (pb : Nat → Bool) : Prop :=
  ∀ (en : Env) (B : Around) (E' : Value → Shared → Prop) (c : Nat) (t : Tok) (z : Shared) (m : Str → Option Value),
    en.scope = scope → en.globals = X.env.globals → (∀ b o, X.base.get? b = some o → z.heap.get? b = some o) → X.base.Ns mainGlobals X.mg → X.env.globals = mainGlobals → z.heap.Ns en.locals m → m x = some (.str ⟨#[c]⟩ t) →
    wpAny (model X.prog X.w) B (eval elt en) (fun y z' => y = .bool (pb c) ∧ Keeps z z') E' z

section
variable {X : Cx} {pins : List (Addr × Obj)} {σ : L2.St} {H : Hp} {s : Shared}
/-- the code of a generator expression, and the built-ins it sees, behind an iterator that was just made -/
theorem code_then {c P : Addr} {ps : Array Value} {o : Obj} {scope : Scope} {q : Str} {gpos : Pos} {E : Value → Shared → Prop} {R : Value → Addr → Shared → Prop} (I : Inv X pins σ H s)
    (TB : TabB X.base X.mg c P) (hcode : X.env.code = .ref c) (hP : H P = some (.tbl ps)) (ht : TriplesOk ps.toList)
    (h : ∀ (cv : Value) (k : Heap) (tk : Nat) (more : Array Value), (∀ b u, b ≠ P → (s.heap.push o).get? b = some u → k.get? b = some u) → s.heap.objs.size < k.objs.size → k.get? P = some { cls := .none, data := .fields (ps ++ more) } → TriplesOk (ps ++ more).toList → k.NoLimit →
      R cv builtinsNs { s with heap := k, toks := tk }) :
    wpAny (model X.prog X.w) X.A (genexprCode X.env gpos q scope) (fun cv z => wpAny (model X.prog X.w) X.A (builtinsFor X.env.globals X.env.builtins) (fun bi z' => R cv bi z') E z) E { s with heap := s.heap.push o } := by
  have p0 : s.heap.get? P = some { cls := .none, data := .fields ps } := I.hok P _ hP
  have p1 : (s.heap.push o).get? P = some { cls := .none, data := .fields ps } := Heap.get?_push_of_some _ p0
  have cd : PySem.W.CodeHd (s.heap.push o) c P := TB.code.keeps fun b u e => Heap.get?_push_of_some _ (I.bk b u e)
  have lim : (s.heap.push o).NoLimit := I.nolimit.push o
  have nP : cStatics ≠ P := by
    obtain ⟨_, ⟨o', es, ep, ho, hd, _⟩, _⟩ := I.nolimit
    intro e
    rw [e, p0] at ho
    cases ho
    cases hd
  have last : ∀ (cv : Value) (k : Heap) (tk : Nat) (more : Array Value), Heap.ExtBut P (s.heap.push o) k → (s.heap.push o).objs.size ≤ k.objs.size → k.get? P = some { cls := .none, data := .fields (ps ++ more) } → TriplesOk (ps ++ more).toList →
      wpAny (model X.prog X.w) X.A (builtinsFor X.env.globals X.env.builtins) (fun bi z' => R cv bi z') E { s with heap := k, toks := tk } := by
    intro cv k tk more hx hs hp ht'
    obtain ⟨bm, ob, e1, e2, e3, e4, e5, e6, e7, e8⟩ := TB.bm
    have up : ∀ b u, b ≠ P → s.heap.get? b = some u → k.get? b = some u := fun b u n e => hx b u n (Heap.get?_push_of_some _ e)
    have g : k.Ns X.env.globals X.mg := by
      rw [I.ok.glob]
      exact ((I.mod.glob.keeps I.bk).push o).extBut hx TB.gP
    refine wpAny_builtinsFor g e1 e2 (up _ _ e4 (I.bk _ _ e5)) e6 e7 e8 (h cv k tk more hx ?_ hp ht' (lim.extBut hx nP))
    rw [Heap.size_push] at hs
    exact hs
  cases hf : codeAmong gpos ps.toList with
  | none =>
    refine wpAny_genexprCodeX hcode (cd.code p1 ht) (cd.tab p1) hf fun c' k tk hx hge hlt hco _ htab _ => ?_
    obtain ⟨_, _, _, _, _, _, _, _, _, _, _, _, _, _, _, _, _, _, _, htr, _⟩ := hco
    exact last _ k tk _ hx (Nat.le_of_lt (Nat.lt_of_le_of_lt hge hlt)) htab.2 htr
  | some cv =>
    refine wpAny_genexprCode_hit hcode (cd.code p1 ht) hf ?_
    have e : ps ++ #[] = ps := by simp
    exact last cv (s.heap.push o) s.toks #[] (fun b u _ e => e) (Nat.le_refl _) (by rw [e]; exact p1) (by rw [e]; exact ht)

theorem genG {c P : Addr} {elt iter : Expr} {x : Str} {px gpos : Pos} {scope : Scope} {pb : Nat → Bool} {te : TE} {k : Nat} {W : Value → Shared → Prop} {R : Str → Hp → Prop}
    (hr : Room k X.A) (TB : TabB X.base X.mg c P) (hcode : X.env.code = .ref c) (S : GenS X.env scope x) (hi : PE X iter te) (hel : EltG X scope x elt pb)
    (hs : ∀ v, genFold iter X.env v = pure v) (I : Inv X pins σ H s) (h : te σ H fun v H1 => ∃ a : Str, v = .str a ∧ TabG H1 P ∧ R a H1)
    (hQ : ∀ a H1 g z, R a H1 → Ready X pins σ H1 P a pb g z → W (.ref g) z) :
    wpAny (model X.prog X.w) X.A (eval (.GeneratorExp elt [⟨.Name x px, iter, [], 0⟩] scope gpos) X.env) W X.xe s := by
  have dr : X.A.depth < recursionLimit := Nat.lt_of_le_of_lt (by omega) hr.dp
  refine wpAny_GeneratorExp_walksQ hr.hd S.co (closure_ok S.free) S.cell S.dot S.loc S.kind dr (thn (hi.run pins s σ H _ I h) ?_) hs
  rintro xv s1 ⟨v, H1, I1, r1, a, rfl, ⟨ps, hP, ht⟩, q1⟩
  obtain ⟨t, rfl⟩ := id r1
  refine wpAny_pyIter_str fun o St Wk st0 => ⟨I1.nolimit.push o, code_then I1 TB hcode hP ht fun cv h3 tk more up lt hp ht' lim => ?_⟩
  have p0 : s1.heap.get? P = some { cls := .none, data := .fields ps } := I1.hok P _ hP
  have pl : P < s1.heap.objs.size := Heap.lt_size p0
  have at1 : ∀ b, b ∈ [s1.heap.objs.size] → b = s1.heap.objs.size := fun b hb => List.mem_singleton.mp hb
  have ne1 : s1.heap.objs.size ≠ P := fun e => Nat.lt_irrefl _ (e ▸ pl)
  have cl : cStatics < s1.heap.objs.size := let ⟨_, n, _⟩ := I1.nolimit; n.lt
  have up0 : ∀ b u, b ≠ P → s1.heap.get? b = some u → h3.get? b = some u := fun b u n e => up b u n (Heap.get?_push_of_some _ e)
  refine ⟨s1.heap.objs.size, [s1.heap.objs.size], [s1.heap.objs.size], a.cps.size, SignAt a, St, fun _ => true, fun i y => ∃ d, a.cps[i]? = some d ∧ y = .bool (pb d), rfl, Wk, ?_, fun b hb => ?_, lim, fun z => ?_, fun href hh => ?_, ?_⟩
  · refine (Wk X.A hr.hd).frame _ _ _ st0 fun b hb u e => up b u ?_ e
    rw [at1 b hb]
    exact ne1
  · rw [at1 b hb]
    exact lt
  · rw [at1 _ z] at cl
    exact Nat.lt_irrefl _ cl
  · constructor
    · intro B E' i v z m _ _ _ _ _
      rw [List.forIn_nil]
      exact wpAny_pure ⟨rfl, keeps_refl _⟩
    · intro B E' i v z m _ hv _ hn hm hk
      obtain ⟨d, u, hd, rfl⟩ := hv
      refine wpAny_mono (hel _ B E' d u z m rfl rfl (fun b w' e => ?_) I1.mod.glob I1.ok.glob hn hm) (fun y z' r => ⟨⟨d, hd, r.1⟩, r.2⟩) fun _ _ e => e
      obtain ⟨e1, e2⟩ := I1.bs b w' e
      have nb : b ≠ P := fun z => by
        rw [z, hP] at e2
        cases e2
      have lb : b < s1.heap.objs.size := Heap.lt_size e1
      refine hk b (List.mem_range.mpr (Nat.lt_trans lb lt)) (fun z => ?_) _ (hh _ _ (up0 b w' nb e1))
      rw [at1 b z] at lb
      exact Nat.lt_irrefl _ lb
  · intro g h5 tk5 gs gb ag sz5 k5 W5 hat
    simp only [GxR.passing_true, List.length_range] at W5
    refine hQ a H1 g _ q1 ⟨_, _, _, _, _, W5.in4_1, hat, ?_, fun s' mv => ?_⟩
    · rintro j y z Q' E' ⟨i, hij, d, hd, rfl⟩ q
      obtain ⟨hj, ej⟩ := List.getElem?_eq_some_iff.mp hij
      rw [List.getElem_range] at ej
      cases ej
      have e : a.cps.toList[j]? = some d := (Array.getElem?_toList (xs := a.cps) (i := j)).trans hd
      have q' : Q' (trF pb a.cps.toList j) z := q
      rw [trF_some e] at q'
      exact wpAny_truthy_bool q'
    · have nw : ∀ b u, s1.heap.get? b = some u → b ∉ h3.objs.size :: [s1.heap.objs.size] := fun b u e hb => by
        have l := Heap.lt_size e
        have l2 : s1.heap.objs.size < h3.objs.size := lt
        rcases List.mem_cons.mp hb with z | z
        · rw [z] at l
          exact Nat.lt_asymm l l2
        · rw [at1 b z] at l
          exact Nat.lt_irrefl _ l
      have J := inv_tab (more := more) (h' := s'.heap) (g' := s'.gens) (d' := s'.drawn) (t' := s'.toks) I1 hP (fun b u n e => mv.heap b u (nw b u e) (k5 b u (up0 b u n e))) (mv.heap P _ (nw P _ p0) (k5 P _ hp)) (AllBare.movedS (I1.bare.push gb) mv)
      have es : ({ s1 with heap := s'.heap, gens := s'.gens, drawn := s'.drawn, toks := s'.toks } : Shared) = s' := by
        obtain ⟨_, _, _, _, _⟩ := s'
        have := mv.os
        dsimp only at this
        rw [this]
      rw [es] at J
      exact ⟨upd H1 P (.tbl (ps ++ more)), ⟨⟨_, upd_same, ht'⟩, fun b hb => upd_ne hb⟩, J⟩

/-- all(elt for x in e), e a text -/
theorem pe_allG {c P : Addr} {elt iter : Expr} {x : Str} {px p pos gpos : Pos} {scope : Scope} {pb : Nat → Bool} {te : TE} {k : Nat}
    (hr : Room k X.A) (hg : Gl X "all") (hm : X.mg "all" = none) (TB : TabB X.base X.mg c P) (hcode : X.env.code = .ref c) (S : GenS X.env scope x) (hi : PE X iter te) (hel : EltG X scope x elt pb)
    (hs : ∀ v, genFold iter X.env v = pure v)
    (he : starEach [.GeneratorExp elt [⟨.Name x px, iter, [], 0⟩] scope gpos] X.env = (false, eval (.GeneratorExp elt [⟨.Name x px, iter, [], 0⟩] scope gpos) X.env) :: starEach [] X.env := by rfl) :
    PE X (.Call (.Name "all" p) [.GeneratorExp elt [⟨.Name x px, iter, [], 0⟩] scope gpos] [] pos) (tAllS P pb te) := by
  refine ⟨fun pins s σ H Q I h => wpAny_Call_Name_kw (ld_blt I hg hm boot_all (PyProof.Rows.callWith_builtin1 ?_ he (by rfl)))⟩
  rw [he]
  show wpAny _ _ (spliced ((false, eval (.GeneratorExp elt [⟨.Name x px, iter, [], 0⟩] scope gpos) X.env) :: backTo pos (starEach [] X.env))) _ _ s
  refine Calls.spliced_cons (genG (R := fun a H1 => ∀ H2, Tabbed P H1 H2 → Q (.bl (a.cps.toList.all pb)) H2) hr TB hcode S hi hel hs I h ?_)
  rintro a H1 g z hR ⟨fp, wr, G, F, St, W, hst, htr, hI⟩
  refine Calls.spliced_nil (call_all_walkS (W.self 0 _ _ _ hst ⟨g, fp, wr, G, _, F, St, _, rfl, W, hst, htr, fun s' mv => ?_⟩))
  obtain ⟨H2, hT, J⟩ := hI s' mv
  rw [all_signs a pb]
  exact ⟨.bl _, H2, J, rfl, hR H2 hT⟩
end

/-- x == 'k' -/
theorem eg_eq {X : Cx} {scope : Scope} {x k : Str} {j : Nat} {p1 p2 p3 : Pos} (hk : scope.kind = .function) (hl : scope.names.lookup x = some .local) (hd : (x == ("__debug__" : Str)) = false := by decide) :
    EltG X scope x (.Compare (.Name x p1) [.Eq] [.Constant (.str k) j p2] p3) (fun c => [c] == k.cps.toList) :=
  fun en B E' c t z m hs _ _ _ _ hn hm => elt_eq (prog := X.prog) (w := X.w) (scope := scope) hk hl hd en B E' c t z m hs hn hm
/-- x in G, G a text of the module -/
theorem eg_in {X : Cx} {scope : Scope} {x G : Str} {y : Str} {t0 : Tok} {p1 p2 p3 : Pos} (hk : scope.kind = .function) (hl : scope.names.lookup x = some .local) (hG : scope.names.lookup G = some .globalImplicit) (hmG : X.mg G = some (.str y t0))
    (hd : (x == ("__debug__" : Str)) = false := by decide) (hd2 : (G == ("__debug__" : Str)) = false := by decide) :
    EltG X scope x (.Compare (.Name x p1) [.In] [.Name G p2] p3) (fun c => decide (c ∈ y.cps.toList)) := by
  intro en B E' c t z m hs hg hb hns hgl hn hm
  have hkind : en.scope.kind = .function := by rw [hs]; exact hk
  have hkx : en.scope.names.lookup x = some .local := by rw [hs]; exact hl
  have hkG : en.kindOf G = some .globalImplicit := by
    show en.scope.names.lookup G = _
    rw [hs]
    exact hG
  refine wpAny_Compare1 (wpAny_Name (wpAny_loadName_local hkind hkx hn hm ?_) hd) (by rfl)
  refine Calls.Name_function_global hkind hkG (Calls.loadGlobal_global (by rw [hg, hgl]; exact hns.keeps hb) hmG ?_) hd2
  refine PyProof.Rows.in_str ⟨?_, keeps_refl _⟩
  rw [PySem.StrLaws.found_one]
/-- a or b -/
theorem eg_or {X : Cx} {scope : Scope} {x : Str} {a b : Expr} {pa pb : Nat → Bool} {pos : Pos} (ha : EltG X scope x a pa) (hb : EltG X scope x b pb) : EltG X scope x (.BoolOp .Or [a, b] pos) (fun c => pa c || pb c) := by
  intro en B E' c t z m hs hg hbs hns hgl hn hm
  refine BoolOp_or (wpAny_mono (ha en B _ c t z m hs hg hbs hns hgl hn hm) (fun y z' ⟨e, ⟨h', tk, e2, kp⟩⟩ => ?_) fun _ _ e => e)
  subst e
  subst e2
  refine wpAny_truthy_bool ?_
  cases hc : pa c with
  | true => exact ⟨by show _ = Value.bool (pa c || pb c); rw [hc]; rfl, h', tk, rfl, kp⟩
  | false =>
    refine BoolOp_one (wpAny_mono (hb en B E' c t _ m hs hg (fun b o e => kp b o (hbs b o e)) hns hgl (hn.keeps kp) hm) (fun y z' ⟨e, ⟨h2, tk2, e2, kp2⟩⟩ => ?_) fun _ _ e => e)
    subst e
    subst e2
    exact ⟨by show _ = Value.bool (pa c || pb c); rw [hc]; rfl, h2, tk2, rfl, fun b o q => kp2 b o (kp b o q)⟩
end Gr

set_option Elab.async false
set_option maxRecDepth 100000
set_option maxHeartbeats 4000000
set_option linter.all false
/-! Ours: enumerate over a text, with or without a start told by its name; o.f |= e; a def called with keywords alone. -/
namespace Gr
open PySem PySem.Spec PyProof.Rows L2

/-- pairs (c + i, the sign at i) of a text, each a new one -/
def Itx (x : Str) (c : Int) : It := ⟨fun i _ => i < x.cps.size, fun i H v H' => ∃ T d, v = .ref T ∧ H T = none ∧ H' = upd H T (.tup [.int (c + (i : Nat)), .str ⟨#[d]⟩]) ∧ x.cps[i]? = some d, fun i _ => x.cps.size = i⟩
def YTx (x : Str) (c : Int) : Nat → Hp → V → Hp → Prop := fun i H v H' => ∃ T d, v = .ref T ∧ H T = none ∧ H' = upd H T (.tup [.int (c + (i : Nat)), .str ⟨#[d]⟩]) ∧ x.cps[i]? = some d
theorem walk_tx {x : Str} {c : Int} : Walk (Itx x c) x.cps.size (fun _ => True) (YTx x c) :=
  ⟨fun _ _ hi _ => hi, fun _ _ => rfl, fun _ _ _ _ _ _ y => y⟩
theorem turn_tx {P : Program} {w : World} {K : PySem.W.Frag} {elts : List Expr} {kk : Nat} {tpos : Pos} {e it : Addr} {x : Str} {t : Tok} {c : Int} :
    Turn P w K (.Tuple elts kk tpos) (Itx x c) [e, it] e (fun i h => (∃ old, IsEnum h e it (c + (i : Int)) old) ∧ h.IsStrIter it (strIterType x) x t i ∧ e ≠ it) where
  mem := List.mem_cons_self
  obj := by
    rintro i h ⟨⟨old, he⟩, ⟨o, ho, hc, hd⟩, _⟩ b hb
    rcases List.mem_cons.mp hb with z | z
    · rw [z]
      exact ⟨_, he, fun v q => nomatch q⟩
    · rw [List.mem_singleton.mp z]
      exact ⟨o, ho, fun v q => by rw [hd] at q; cases q⟩
  keep := by
    rintro i h h' ⟨⟨old, he⟩, ⟨o, ho, r⟩, ne⟩ k
    exact ⟨⟨old, k e (List.mem_cons_self) _ he⟩, ⟨o, k it (by simp) _ ho, r⟩, ne⟩
  item := by
    intro X hP hw hK hc i pins s σ H E I hf st hg
    subst hP hw hK
    obtain ⟨⟨old, he⟩, hit, ne⟩ := st
    have el : e < s.heap.objs.size := Heap.lt_size he
    have il : it < s.heap.objs.size := let ⟨_, q, _⟩ := hit; Heap.lt_size q
    refine wpAny_pyNext_enum_itemC (Draws.text (A := X.A.in1) (I.ok.hd hc) it x t) he hit hg ne (fun z => ne (List.mem_singleton.mp z)) fun u h' tk hu ho hit' hT hz hk => ?_
    obtain ⟨d, tu, hd, rfl⟩ := hu
    refine ⟨_, rfl, wpAny_letOwnedTupleGo_enum (s := { s with heap := h', toks := tk + 1 }) ho fun h'' he' sb => ?_⟩
    have nT : s.heap.objs.size ≠ e := Nat.ne_of_gt el
    have hT2 : h''.get? s.heap.objs.size = some { cls := .type "tuple", data := .seq #[.int (c + (i : Int)) tk, .str ⟨#[d]⟩ tu] } := (sb.2 _ nT).trans hT
    have new : ObjOk X.prog X.w (upd H s.heap.objs.size (.tup [.int (c + (i : Nat)), .str ⟨#[d]⟩])) h'' s.heap.objs.size (.tup [.int (c + (i : Nat)), .str ⟨#[d]⟩]) :=
      ⟨by show 2 ≤ sizeLine; decide, _, .cons ⟨_, rfl⟩ (.cons ⟨_, rfl⟩ .nil), ⟨_, hT2, rfl, _, rfl⟩⟩
    have I1 : Inv X pins σ (upd H s.heap.objs.size (.tup [.int (c + (i : Nat)), .str ⟨#[d]⟩])) { s with heap := h'', toks := tk + 1 } := by
      refine I.turnedNew (ch := [e, it]) (fun b ob hb q => ?_) hf (Nat.le_refl _) new
      have n1 : b ≠ e := fun z => hb (z ▸ List.mem_cons_self)
      have n2 : b ≠ it := fun z => hb (by rw [z]; exact List.mem_cons_of_mem _ List.mem_cons_self)
      exact (sb.2 b n1).trans (hk b ob n1 n2 q)
    refine ⟨.ref s.heap.objs.size, _, I1, rfl, ⟨_, d, rfl, I.hok.fresh (Nat.le_refl _), rfl, hd⟩, ⟨⟨.str ⟨#[d]⟩ tu, ?_⟩, ?_, ne⟩, fun b hb => ?_⟩
    · have q : c + ((i + 1 : Nat) : Int) = c + (i : Int) + 1 := by omega
      rw [q]
      exact he'
    · obtain ⟨o, q, r⟩ := hit'
      exact ⟨o, (sb.2 it (Ne.symm ne)).trans q, r⟩
    · have lb : b < s.heap.objs.size := by
        rcases List.mem_cons.mp hb with z | z
        · rw [z]
          exact el
        · rw [List.mem_singleton.mp z]
          exact il
      rw [upd_ne (Nat.ne_of_lt lb)]
      exact (hf b hb).1
  done := by
    intro X hP hw hK hc i pins s σ H E I hf st hg
    subst hP hw hK
    obtain ⟨⟨old, he⟩, hit, ne⟩ := st
    have hi : x.cps.size = i := hg
    subst hi
    have D := Draws.text (prog := X.prog) (w := X.w) (A := X.A.in1) (I.ok.hd hc) it x t
    obtain ⟨f0, f1, f2, f3, f4, f5⟩ := hf it (by simp)
    exact wpAny_pyNext_enum_endD D he hit fun h' eb => ⟨rfl, I.turned (t' := s.toks) (fun b o hb q => eb b o hb q) f0 f1 f3 f4 f5⟩
  self := fun A i s Q E ⟨⟨_, he⟩, _⟩ h => wpAny_pyIter_enum he h

/-- enumerate(e), e a text; enumerate(e, start=k) -/
def iEnumS (ta : TA) : TI := fun σ H R => ta σ H fun vs H1 => ∃ x, vs = [.str x] ∧ R (Itx x 0) H1
def iEnumK (ta tk : TA) : TI := fun σ H R => ta σ H fun vs H1 => tk σ H1 fun ks H2 => ∃ x k, vs = [.str x] ∧ ks = [.int k] ∧ -(2 ^ 63) ≤ k ∧ k < 2 ^ 63 ∧ R (Itx x k) H2
section
variable {X : Cx} {e f : Expr} {ta tk : TA} {p pos tpos kpos : Pos} {elts : List Expr} {kk : Nat}
theorem begun_tx {pins : List (Addr × Obj)} {σ : L2.St} {H : Hp} {s : Shared} {R : It → Hp → Prop} {x : Str} {t : Tok} {k : Int} {h' : Heap} (I : Inv X pins σ H s)
    (he : IsEnum h' (s.heap.objs.size + 1) s.heap.objs.size k .none) (hit : h'.IsStrIter s.heap.objs.size (strIterType x) x t 0) (hk : ∀ b o, s.heap.get? b = some o → h'.get? b = some o) (q : R (Itx x k) H) :
    PIE X pins σ (.Tuple elts kk tpos) R (.ref (s.heap.objs.size + 1)) { s with heap := h' } := by
  refine ⟨_, [s.heap.objs.size + 1, s.heap.objs.size], _, _, H, rfl, I.kept (t' := s.toks) hk, turn_tx (x := x) (t := t) (c := k), ⟨⟨.none, ?_⟩, hit, Nat.succ_ne_self _⟩, fun b hb => ?_, q⟩
  · have z : k + ((0 : Nat) : Int) = k := by omega
    rw [z]
    exact he
  · have lb : s.heap.objs.size ≤ b := by
      rcases List.mem_cons.mp hb with z | z
      · rw [z]
        exact Nat.le_succ _
      · rw [List.mem_singleton.mp z]
        exact Nat.le_refl _
    exact I.fpOk lb (I.hok.fresh lb)
theorem pi_enumS (hg : Gl X "enumerate") (hm : X.mg "enumerate" = none) (ha : PA X [e] ta) (hs : starEach [e] X.env = [(false, eval e X.env)] := by rfl) :
    PI X (.Tuple elts kk tpos) (.Call (.Name "enumerate" p) [e] [] pos) (iEnumS ta) := by
  refine ⟨fun pins s σ H R I h => Call_ (ld_blt I hg hm boot_enumerate (PyProof.Rows.callWith_type1 (thn (ha.run pos pins s σ H _ I h) ?_) hs rfl))⟩
  rintro us s1 ⟨vs, H1, I1, r1, x, rfl, q⟩
  obtain ⟨u, rfl, ru⟩ := vals1 r1
  obtain ⟨t, rfl⟩ := ru
  exact call_enumerate_str fun h' he hit _ hk => wpAny_pyIter_enum he (begun_tx I1 he hit hk q)
theorem pi_enumK (hg : Gl X "enumerate") (hm : X.mg "enumerate" = none) (ha : PA X [e] ta) (hk : PK X [⟨some ("start" : Str), f, kpos⟩] tk) (hs : starEach [e] X.env = (false, eval e X.env) :: starEach [] X.env := by rfl)
    (hpl : ((backTo pos (starEach [e] X.env)).any (·.1) || (backToKw pos (keywordEach [⟨some ("start" : Str), f, kpos⟩] X.env)).any (·.1.isNone)) = false := by rfl) :
    PI X (.Tuple elts kk tpos) (.Call (.Name "enumerate" p) [e] [⟨some ("start" : Str), f, kpos⟩] pos) (iEnumK ta tk) := by
  refine ⟨fun pins s σ H R I h => wpAny_Call_Name_kw (ld_blt I hg hm boot_enumerate ?_)⟩
  refine PySem.W.callWith_of (P := fun _ => True) hpl (fun _ _ => ⟨.machine, .inr (.inl rfl), fun {A' Q' E' s'} _ z => wpAny_pure z⟩) (PyProof.Rows.evalArgs_kw2 (by rfl) (thn (ha.run pos pins s σ H _ I h) ?_) hs)
  rintro us s1 ⟨vs, H1, I1, r1, q⟩
  refine thn (hk.run pos pins s1 σ H1 _ I1 q) ?_
  rintro ws s2 ⟨zs, H2, I2, r2, x, k, rfl, rfl, k0, k1, q⟩
  refine ⟨trivial, ?_⟩
  obtain ⟨u, rfl, ru⟩ := vals1 r1
  obtain ⟨t, rfl⟩ := ru
  obtain ⟨u2, rfl, ru2⟩ := vals1 r2
  obtain ⟨t2, rfl⟩ := ru2
  refine enum_begins_start (begins_text x t) trivial k0 k1 fun h' he ho _ hk => wpAny_pyIter_enum he (begun_tx I2 he ⟨_, ho, rfl, rfl⟩ hk q)
end

/-! ### o.f |= e -/
def rOr : V → V → Hp → VK → Prop := fun x y H Q => ∃ i j, x = .int i ∧ y = .int j ∧ Q (.int (Builtin.bitOr i j)) H
theorem in_or {X : Cx} : InOp X .BitOr rOr := by
  rintro pins s σ H x y u v Q I rx ry ⟨i, j, rfl, rfl, q⟩
  obtain ⟨t, rfl⟩ := id rx
  obtain ⟨t', rfl⟩ := id ry
  exact PyProof.Rows.ior_int ⟨.int (Builtin.bitOr i j), H, I.tok _, ⟨_, rfl⟩, q⟩

/-! ### f(k = e, ..) -/
section
variable {X : Cx} {CX : CXT} {k : Nat} {f : Addr} {fd : FuncData} {ps ks : List Str} {sp : Sp} {E : XK} {x : Str} {p pos : Pos} {tk : TA} {g : List Value → List Value → List Value} {gV : List V → List V → List V} {kws : List Keyword}
theorem pe_callK0 (F : FnOk X.prog X.w X.K X.mg X.base CX k f fd ps sp) (hr : Room k X.A) (hg : Gl X x) (hm : X.mg x = some (.ref f)) (hk : PySem.W.keepIn X.K (.ref f) = true) (hb : KBinds X.K fd ps ks g gV) (hx : Passes CX X E) (hkw : PK X kws tk)
    (hall : (backToKw pos (keywordEach kws X.env)).all (·.1.isSome) = true := by rfl) (hks : (backToKw pos (keywordEach kws X.env)).filterMap (·.1) = ks := by rfl) (hdb : (x == ("__debug__" : Str)) = false := by decide)
    (hpl : ((backTo pos (starEach [] X.env)).any (·.1) || (backToKw pos (keywordEach kws X.env)).any (·.1.isNone)) = false := by rfl) :
    PE X (.Call (.Name x p) [] kws pos) (tCallK sp gV E tNil tk) := by
  refine ⟨fun pins s σ H Q I h => wpAny_Call_Name_kw (ld_glob I hg hm ?_ hdb)⟩
  refine PySem.W.callWith_KW0 (h₀ := X.base) I.ok.mod.kin hk hall (thn (hkw.run pos pins s σ H _ I h) ?_) hpl
  rintro ws s2 ⟨zs, H2, I2, rz, q⟩
  refine ⟨I2.kIn, ?_⟩
  rw [hks]
  exact run_fnk F hr hb hx I2 .nil rz q
end
end Gr

set_option Elab.async false
set_option maxRecDepth 100000
set_option maxHeartbeats 4000000
set_option linter.all false
/-! Ours: zip of a list and a tuple. -/
namespace Gr
open PySem PySem.Spec PyProof.Rows L2

theorem paired_at {α β : Type} {r : α → β → Prop} : ∀ {xs : List α} {ys : List β}, Paired r xs ys → ∀ {i : Nat} {x : α}, xs[i]? = some x → ∃ y, ys[i]? = some y ∧ r x y
  | _, _, .nil, i, x, h => by cases h
  | _, _, .cons a b, 0, x, h => ⟨_, rfl, by cases h; exact a⟩
  | _, _, .cons a b, i + 1, x, h => paired_at b h
theorem paired_len {α β : Type} {r : α → β → Prop} : ∀ {xs : List α} {ys : List β}, Paired r xs ys → xs.length = ys.length
  | _, _, .nil => rfl
  | _, _, .cons a b => congrArg (· + 1) (paired_len b)
theorem plain_is {h : Heap} {a : Addr} {its : Array Value} (p : PlainL h a its) : h.IsList a its := let ⟨o, n, h1, h2, _, h4⟩ := p; ⟨o, h1, h2, n, h4⟩
theorem in5 {N c : Nat} (h : c ∈ [N + 4, N + 2, N + 3, N, N + 1]) : N ≤ c ∧ c ≤ N + 4 := by
  simp only [List.mem_cons, List.not_mem_nil, or_false] at h
  omega
/-- pairs of the list at a and the tuple at b -/
def ItzM (K : PySem.W.Frag) (a b : Addr) (xs ys : List V) : It :=
  ⟨fun i H => SqL K H a xs ∧ SqT K H b ys ∧ i < xs.length ∧ i < ys.length,
   fun i H v H' => ∃ T x y, v = .ref T ∧ H T = none ∧ H' = upd H T (.tup [x, y]) ∧ xs[i]? = some x ∧ ys[i]? = some y,
   fun i H => SqL K H a xs ∧ SqT K H b ys ∧ i ≤ xs.length ∧ i ≤ ys.length ∧ (i = xs.length ∨ i = ys.length)⟩
def YzM (xs ys : List V) : Nat → Hp → V → Hp → Prop := fun i H v H' => ∃ T x y, v = .ref T ∧ H T = none ∧ H' = upd H T (.tup [x, y]) ∧ xs[i]? = some x ∧ ys[i]? = some y
theorem walk_zipM {K : PySem.W.Frag} {a b : Addr} {xs ys : List V} {n : Nat} (h1 : n = xs.length) (h2 : n = ys.length) : Walk (ItzM K a b xs ys) n (fun H => SqL K H a xs ∧ SqT K H b ys) (YzM xs ys) :=
  ⟨fun i H hi q => ⟨q.1, q.2, by omega, by omega⟩, fun H q => ⟨q.1, q.2, by omega, by omega, .inl h1⟩, fun _ _ _ _ _ _ y => y⟩
theorem turn_zipM {P : Program} {w : World} {K : PySem.W.Frag} {elts : List Expr} {kk : Nat} {tpos : Pos} {a b : Addr} {xs ys : List V} {N : Nat} (ha : a < N) (hb : b < N) :
    Turn P w K (.Tuple elts kk tpos) (ItzM K a b xs ys) [N + 4, N + 2, N + 3, N, N + 1] (N + 4) (fun i h => IsZip h (N + 4) (N + 2) (N + 3) .none ∧ IsTupOf2 h (N + 2) (.ref N) (.ref (N + 1)) ∧ (∃ x y, IsTupOf2 h (N + 3) x y) ∧ h.IsListIter N a i ∧ h.IsTupleIter (N + 1) b i) where
  mem := List.mem_cons_self
  obj := by
    rintro i h ⟨hz, hTI, ⟨_, _, hTO⟩, ⟨o1, e1, _, d1⟩, ⟨o2, e2, _, d2⟩⟩ b hb
    simp only [List.mem_cons, List.not_mem_nil, or_false] at hb
    rcases hb with rfl | rfl | rfl | rfl | rfl
    · exact ⟨_, hz, fun v q => nomatch q⟩
    · exact ⟨_, hTI, fun v q => nomatch q⟩
    · exact ⟨_, hTO, fun v q => nomatch q⟩
    · exact ⟨_, e1, fun v q => by rw [d1] at q; cases q⟩
    · exact ⟨_, e2, fun v q => by rw [d2] at q; cases q⟩
  keep := by
    rintro i h h' ⟨hz, hTI, ⟨x, y, hTO⟩, ⟨o1, e1, r1⟩, ⟨o2, e2, r2⟩⟩ k
    exact ⟨k _ (by simp) _ hz, k _ (by simp) _ hTI, ⟨x, y, k _ (by simp) _ hTO⟩, ⟨o1, k _ (by simp) _ e1, r1⟩, ⟨o2, k _ (by simp) _ e2, r2⟩⟩
  item := by
    intro X hP hw hK hc i pins s σ H E I hf st hg
    subst hP hw hK
    obtain ⟨hz, hTI, ⟨x, y, hTO⟩, it1, it2⟩ := st
    obtain ⟨hL, hT, l1, l2⟩ := hg
    obtain ⟨v1, r1, p1, m1⟩ := I.list hL
    obtain ⟨v2, r2, p2, m2⟩ := I.tuple hT
    have g1 : xs[i]? = some xs[i] := List.getElem?_eq_getElem l1
    have g2 : ys[i]? = some ys[i] := List.getElem?_eq_getElem l2
    obtain ⟨u1, w1, q1⟩ := paired_at r1 g1
    obtain ⟨u2, w2, q2⟩ := paired_at r2 g2
    have n1 : i < v1.toArray.size := by rw [List.size_toArray, ← paired_len r1]; exact l1
    have n2 : i < v2.toArray.size := by rw [List.size_toArray, ← paired_len r2]; exact l2
    have sep := zip_sep2 (N := N) (fp1 := [a]) (fp2 := [b]) (fun c hc => by rw [List.mem_singleton.mp hc]; exact ha) (fun c hc => by rw [List.mem_singleton.mp hc]; exact hb)
    have zl : N + 4 < s.heap.objs.size := Heap.lt_size hz
    refine wpAny_pyNext_zipD2_item sep (Draws.list (A := X.A.in1) (I.ok.hd hc) N a (Nat.ne_of_lt ha) v1.toArray) (Draws.tuple (A := X.A.in1) (I.ok.hd hc) (N + 1) b (Nat.ne_of_lt (Nat.lt_succ_of_lt hb)) v2.toArray)
      hz hTI hTO ⟨it1, ?_⟩ ⟨it2, ?_⟩ n1 n2 fun x1 x2 h' tk e1 e2 hz' hTO' st1 st2 hT' hs' hk => ?_
    · exact plain_is p1
    · exact p2
    have ex1 : x1 = u1 := by
      have : v1[i]? = some x1 := (List.getElem?_toArray (xs := v1) (i := i)).symm.trans e1
      rw [w1] at this
      exact (Option.some.inj this).symm
    have ex2 : x2 = u2 := by
      have : v2[i]? = some x2 := (List.getElem?_toArray (xs := v2) (i := i)).symm.trans e2
      rw [w2] at this
      exact (Option.some.inj this).symm
    refine ⟨_, rfl, wpAny_letOwnedTupleGo_zip hz' fun h'' hz'' sb => ?_⟩
    have nT : s.heap.objs.size ≠ N + 4 := Nat.ne_of_gt zl
    have hT2 : h''.get? s.heap.objs.size = some { cls := .type "tuple", data := .seq #[x1, x2] } := (sb.2 _ nT).trans hT'
    have new : ObjOk X.prog X.w (upd H s.heap.objs.size (.tup [xs[i], ys[i]])) h'' s.heap.objs.size (.tup [xs[i], ys[i]]) :=
      ⟨by show 2 ≤ sizeLine; decide, _, .cons (ex1 ▸ q1) (.cons (ex2 ▸ q2) .nil), ⟨_, hT2, rfl, _, rfl⟩⟩
    have I1 : Inv X pins σ (upd H s.heap.objs.size (.tup [xs[i], ys[i]])) { s with heap := h'', toks := tk } := by
      refine I.turnedNew (ch := [N + 4, N + 2, N + 3, N, N + 1]) (fun b ob hb q => ?_) hf (Nat.le_refl _) new
      simp only [List.mem_cons, List.not_mem_nil, or_false, not_or] at hb
      exact (sb.2 b hb.1).trans (hk b ob hb.1 hb.2.2.1 hb.2.2.2.1 hb.2.2.2.2 q)
    have tInz : N + 2 ≠ N + 4 := by omega
    have n23 : N + 2 ≠ N + 3 := by omega
    have n20 : N + 2 ≠ N := by omega
    have n21 : N + 2 ≠ N + 1 := by omega
    have tOnz : N + 3 ≠ N + 4 := by omega
    have i1nz : N ≠ N + 4 := by omega
    have i2nz : N + 1 ≠ N + 4 := by omega
    refine ⟨.ref s.heap.objs.size, _, I1, rfl, ⟨_, _, _, rfl, I.hok.fresh (Nat.le_refl _), rfl, g1, g2⟩, ⟨hz'', ?_, ⟨x1, x2, (sb.2 _ tOnz).trans hTO'⟩, ?_, ?_⟩, fun c hc => ?_⟩
    · exact (sb.2 _ tInz).trans (hk _ _ tInz n23 n20 n21 hTI)
    · obtain ⟨o, q, r⟩ := st1.1
      exact ⟨o, (sb.2 _ i1nz).trans q, r⟩
    · obtain ⟨o, q, r⟩ := st2.1
      exact ⟨o, (sb.2 _ i2nz).trans q, r⟩
    · have lc : c < s.heap.objs.size := Nat.lt_of_le_of_lt (in5 hc).2 zl
      rw [upd_ne (Nat.ne_of_lt lc)]
      exact (hf c hc).1
  done := by
    intro X hP hw hK hc i pins s σ H E I hf st hg
    subst hP hw hK
    obtain ⟨hz, hTI, ⟨x, y, hTO⟩, it1, it2⟩ := st
    obtain ⟨hL, hT, l1, l2, e⟩ := hg
    obtain ⟨v1, r1, p1, m1⟩ := I.list hL
    obtain ⟨v2, r2, p2, m2⟩ := I.tuple hT
    have s1 : v1.toArray.size = xs.length := by rw [List.size_toArray, ← paired_len r1]
    have s2 : v2.toArray.size = ys.length := by rw [List.size_toArray, ← paired_len r2]
    have sep := zip_sep2 (N := N) (fp1 := [a]) (fp2 := [b]) (fun c hc => by rw [List.mem_singleton.mp hc]; exact ha) (fun c hc => by rw [List.mem_singleton.mp hc]; exact hb)
    refine wpAny_pyNext_zipD2_end sep (Draws.list (A := X.A.in1) (I.ok.hd hc) N a (Nat.ne_of_lt ha) v1.toArray) (Draws.tuple (A := X.A.in1) (I.ok.hd hc) (N + 1) b (Nat.ne_of_lt (Nat.lt_succ_of_lt hb)) v2.toArray)
      hz hTI hTO ⟨it1, ?_⟩ ⟨it2, ?_⟩ (by omega) (by omega) (by omega) fun h' tk hk => ⟨rfl, I.turnedL (ch := [N + 4, N + 2, N + 3, N, N + 1]) (fun c o hc q => ?_) hf⟩
    · exact plain_is p1
    · exact p2
    · simp only [List.mem_cons, List.not_mem_nil, or_false, not_or] at hc
      exact hk c o hc.1 hc.2.2.1 hc.2.2.2.1 hc.2.2.2.2 q
  self := fun A i s Q E ⟨hz, _⟩ h => wpAny_pyIter_zip hz h
/-- zip(xs, ys), a list and a tuple -/
def iZipM (K : PySem.W.Frag) (ta : TA) : TI := fun σ H R => ta σ H fun vs H1 => ∃ a b xs ys, vs = [.ref a, .ref b] ∧ SqL K H1 a xs ∧ SqT K H1 b ys ∧ R (ItzM K a b xs ys) H1
section
variable {X : Cx} {e e2 : Expr} {ta : TA} {p pos tpos : Pos} {elts : List Expr} {kk : Nat}
theorem pi_zipM (hg : Gl X "zip") (hm : X.mg "zip" = none) (ha : PA X [e, e2] ta) (hs : starEach [e, e2] X.env = (false, eval e X.env) :: starEach [e2] X.env := by rfl) (hpl : ((backTo pos (starEach [e2] X.env)).any (·.1)) = false := by rfl) :
    PI X (.Tuple elts kk tpos) (.Call (.Name "zip" p) [e, e2] [] pos) (iZipM X.K ta) := by
  refine ⟨fun pins s σ H R I h => Call_ (ld_blt I hg hm boot_zip (PyProof.Rows.callWith_type1 (thn (ha.run pos pins s σ H _ I h) ?_) hs hpl))⟩
  rintro us s1 ⟨vs, H1, I1, r1, a, b, xs, ys, rfl, hL, hT, q⟩
  obtain ⟨v1, q1, p1, m1⟩ := I1.list hL
  obtain ⟨v2, q2, p2, m2⟩ := I1.tuple hT
  match us, r1 with
  | _, .cons (b := _) e1 (.cons (b := _) e2 .nil) =>
  cases e1
  cases e2
  have la : a < s1.heap.objs.size := let ⟨_, _, e, _⟩ := p1; Heap.lt_size e
  have lb : b < s1.heap.objs.size := let ⟨_, e, _⟩ := p2; Heap.lt_size e
  refine zip_begins2 (begins_list a v1.toArray) (begins_tuple b v2.toArray) ?_ ?_ fun h' hz hTI hTO e1 e2 hs hk => wpAny_pyIter_zip hz ⟨_, [s1.heap.objs.size + 4, s1.heap.objs.size + 2, s1.heap.objs.size + 3, s1.heap.objs.size, s1.heap.objs.size + 1], _, _, H1, rfl, I1.kept (t' := s1.toks) hk, turn_zipM (xs := xs) (ys := ys) la lb, ⟨hz, hTI, ⟨_, _, hTO⟩, ⟨_, e1, rfl, rfl⟩, ⟨_, e2, rfl, rfl⟩⟩, fun c hc => ?_, q⟩
  · exact plain_is p1
  · exact p2
  · have lc : s1.heap.objs.size ≤ c := (in5 hc).1
    exact I1.fpOk lc (I1.hok.fresh lc)
end
end Gr

set_option Elab.async false
set_option maxRecDepth 100000
set_option maxHeartbeats 4000000
set_option linter.all false
/-! Ours: xs < ys of lists; (n, s) < (m, t) of tuples of an int and a text. -/
namespace Gr
open PySem PySem.Spec PyProof.Rows L2
theorem l_items {M : Model} {A : Around} {E : Value → Shared → Prop} {s : Shared} {l : Addr} {items : Array Value} {n : Nat} {dd : Option Addr} {sl : Array (Option Value)} {Q : Array Value → Shared → Prop}
    (hl : s.heap.get? l = some { cls := .type "list", dict := dd, data := .seq items n, slots := sl }) (q : Q items s) : wpAny M A (Builtin.List.listItems (.ref l)) Q E s := by
  obtain ⟨hp, g, d, tk, os⟩ := s
  unfold Builtin.List.listItems
  refine wpAny_bind ?_
  unfold seqItems?
  exact wpAny_bind (wpAny_load' hl (wpAny_pure (wpAny_pure q)))
theorem lt_loopAt (l b : Addr) (items items2 : Array Value) (n n2 : Nat) (dd dd2 : Option Addr) (sl sl2 : Array (Option Value)) (e r : Nat → Bool) :
    ∀ (k i : Nat), i + k = min items.size items2.size → Meets (Builtin.«list.__eq__.loop» { pos := [.ref l, .ref b, rawInt (i : Nat), rawInt 0] }) fun A R s =>
      s.heap.get? l = some { cls := .type "list", dict := dd, data := .seq items n, slots := sl } ∧ s.heap.get? b = some { cls := .type "list", dict := dd2, data := .seq items2 n2, slots := sl2 } ∧
        (∀ (j : Nat) (h1 : j < items.size) (h2 : j < items2.size), SeqAt.EqAt A.in1 s items[j] items2[j] (e j)) ∧
        (∀ (j : Nat) (h1 : j < items.size) (h2 : j < items2.size), e j = false → Ob.RcOp .Lt A.in1 s items[j] items2[j] (r j)) ∧
          R (.ok (.ret (.bool (Ob.lexAt e r (decide (items.size < items2.size)) i k)))) s
  | 0, i, hk => by
    rintro prog w A R s ⟨hl, hb, he, hr, h⟩
    refine wpAny_bind (l_items hl (wpAny_bind (l_items hb ?_)))
    have fin : wpAny (model prog w) A.in1 (do
        let xs ← Builtin.List.listItems (.ref l)
        let ys ← Builtin.List.listItems (.ref b)
        ret (.bool (decide (xs.size < ys.size)))) (fun fin s' => match fin with
          | .done f => R (.ok f) s'
          | .again c' => c'.quiet = true ∧ codeAny (model prog w) A c' R s') (fun e s' => R (.error e) s') s :=
      wpAny_bind (l_items hl (wpAny_bind (l_items hb (wpAny_pure h))))
    by_cases q : items.size ≤ i
    · have e1 : items[((i : Nat) : Int).toNat]? = none := Array.getElem?_eq_none q
      rw [e1]
      exact fin
    · have e1 : items[((i : Nat) : Int).toNat]? = some items[i] := Array.getElem?_eq_getElem (by omega)
      have e2 : items2[((i : Nat) : Int).toNat]? = none := Array.getElem?_eq_none (show items2.size ≤ i by omega)
      rw [e1, e2]
      exact fin
  | k + 1, i, hk => by
    rintro prog w A R s ⟨hl, hb, he, hr, h⟩
    refine wpAny_bind (l_items hl (wpAny_bind (l_items hb ?_)))
    have h1 : i < items.size := by omega
    have h2 : i < items2.size := by omega
    have e1 : items[((i : Nat) : Int).toNat]? = some items[i] := Array.getElem?_eq_getElem h1
    have e2 : items2[((i : Nat) : Int).toNat]? = some items2[i] := Array.getElem?_eq_getElem h2
    rw [e1, e2]
    refine wpAny_bind (he i h1 h2 prog w _ _ ?_)
    rw [Ob.lexAt_succ] at h
    cases hc : e i with
    | true =>
      rw [hc] at h
      have hs : (((i : Nat) : Int) + 1) = ((i + 1 : Nat) : Int) := rfl
      refine wpAny_pure ⟨plainId_quiet MeetsSeq3.plain_eq_loop _, codeAny_builtin MeetsSeq3.entry_eq_loop ?_⟩
      have := lt_loopAt l b items items2 n n2 dd dd2 sl sl2 e r k (i + 1) (by omega) prog w A R s ⟨hl, hb, he, hr, h⟩
      exact this
    | false =>
      rw [hc] at h
      refine wpAny_bind (l_items hl (wpAny_bind (l_items hb ?_)))
      rw [e1, e2]
      exact wpAny_bind (hr i h1 h2 hc prog w _ _ (wpAny_pure h))
theorem list_ltAt (l b : Addr) (items items2 : Array Value) (n n2 : Nat) (dd dd2 : Option Addr) (sl sl2 : Array (Option Value)) (e r : Nat → Bool) :
    Meets (Builtin.«list.__lt__» { pos := [.ref l, .ref b] }) fun A R s =>
      s.heap.get? l = some { cls := .type "list", dict := dd, data := .seq items n, slots := sl } ∧ s.heap.get? b = some { cls := .type "list", dict := dd2, data := .seq items2 n2, slots := sl2 } ∧
        (∀ (j : Nat) (h1 : j < items.size) (h2 : j < items2.size), SeqAt.EqAt A.in1 s items[j] items2[j] (e j)) ∧
        (∀ (j : Nat) (h1 : j < items.size) (h2 : j < items2.size), e j = false → Ob.RcOp .Lt A.in1 s items[j] items2[j] (r j)) ∧
          R (.ok (.ret (.bool (Ob.lexAt e r (decide (items.size < items2.size)) 0 (min items.size items2.size))))) s := by
  rintro prog w A R ⟨hp, g, d, tk, os⟩ ⟨hl, hb, he, hr, h⟩
  have f3 := AutoSeq1.sub_list_list
  refine wpAny_bind ?_
  unfold slotArgs
  refine wpAny_ite_false rfl (wpAny_ite_false rfl (wpAny_pure ?_))
  refine wpAny_bind (wpAny_bind (wpAny_bind (wpAny_loadPart' hb (wpAny_pure (wpAny_of_eq f3 ?_)))))
  refine wpAny_ite_false rfl (wpAny_ite_false rfl ?_)
  refine wpAny_pure ⟨plainId_quiet MeetsSeq3.plain_eq_loop _, codeAny_builtin MeetsSeq3.entry_eq_loop ?_⟩
  exact lt_loopAt l b items items2 n n2 dd dd2 sl sl2 e r _ 0 (Nat.zero_add _) prog w A R _ ⟨hl, hb, he, hr, h⟩
theorem lists_lt {A : Around} {s : Shared} {l b : Addr} {items items2 : Array Value} {e r : Nat → Bool} (hl : s.heap.IsList l items) (hb : s.heap.IsList b items2) (hu : A.units < cLine)
    (he : ∀ (j : Nat) (h1 : j < items.size) (h2 : j < items2.size), SeqAt.EqAt A.in1 s items[j] items2[j] (e j))
    (hr : ∀ (j : Nat) (h1 : j < items.size) (h2 : j < items2.size), e j = false → Ob.RcOp .Lt A.in1 s items[j] items2[j] (r j)) :
    Ob.RcOp .Lt A s (.ref l) (.ref b) (Ob.lexAt e r (decide (items.size < items2.size)) 0 (min items.size items2.size)) := by
  intro prog w E Q h
  obtain ⟨⟨cls, dd, data, sl⟩, ho, hc, n, hd⟩ := id hl
  obtain ⟨⟨cls2, dd2, data2, sl2⟩, ho2, hc2, n2, hd2⟩ := id hb
  dsimp only at hc hd hc2 hd2
  subst hc hd hc2 hd2
  exact richCompare_meets_room ⟨_, ho, rfl⟩ ⟨_, ho2, rfl⟩ F.slot_list_lt F.entry_list_lt (F.args_list_lt_2 (.ref l) (.ref b)) (list_ltAt l b items items2 n n2 dd dd2 sl sl2 e r) ⟨ho, ho2, he, hr, ⟨(fun x => nomatch x), h⟩⟩ hu
theorem rc_str {A : Around} {s : Shared} (x y : Str) (t u : Tok) : Ob.RcOp .Lt A s (.str x t) (.str y u) (decide (x.cps.toList < y.cps.toList)) := fun _ _ _ _ h => PySem.P.lt_str h
theorem lexAt_ints (ns ms : List Int) : ∀ (k i : Nat), i + k = min ns.length ms.length →
    Ob.lexAt (fun j => ns.getD j 0 == ms.getD j 0) (fun j => decide (ns.getD j 0 < ms.getD j 0)) (decide (ns.length < ms.length)) i k = HT.lexLt (ns.drop i) (ms.drop i)
  | 0, i, h => by
    rw [Ob.lexAt_zero]
    by_cases q : ns.length ≤ i
    · rw [List.drop_of_length_le q]
      by_cases q2 : ms.length ≤ i
      · rw [List.drop_of_length_le q2, HT.lexLt_nil_nil]
        exact decide_eq_false (by omega)
      · rw [List.drop_eq_getElem_cons (Nat.lt_of_not_le q2), HT.lexLt_nil_cons]
        exact decide_eq_true (by omega)
    · rw [List.drop_eq_getElem_cons (Nat.lt_of_not_le q), List.drop_of_length_le (show ms.length ≤ i by omega), HT.lexLt_cons_nil]
      exact decide_eq_false (by omega)
  | k + 1, i, h => by
    have h1 : i < ns.length := by omega
    have h2 : i < ms.length := by omega
    have e1 : ns.getD i 0 = ns[i] := by rw [List.getD_eq_getElem?_getD, List.getElem?_eq_getElem h1]; rfl
    have e2 : ms.getD i 0 = ms[i] := by rw [List.getD_eq_getElem?_getD, List.getElem?_eq_getElem h2]; rfl
    rw [Ob.lexAt_succ, List.drop_eq_getElem_cons h1, List.drop_eq_getElem_cons h2, HT.lexLt_cons, lexAt_ints ns ms k (i + 1) (by omega), e1, e2]
    by_cases q : ns[i] = ms[i]
    · rw [if_pos (by simp [q]), if_pos q]
    · rw [if_neg (by simp [q]), if_neg q]
/-- xs < ys, lists of ints -/
def rLtL (K : PySem.W.Frag) : R2 := fun x y H Q => ∃ a b ns ms, x = .ref a ∧ y = .ref b ∧ SqL K H a (ns.map V.int) ∧ SqL K H b (ms.map V.int) ∧ Q (.bl (HT.lexLt ns ms)) H
theorem op_ltL {X : Cx} (hu : X.A.units < cLine) : OpR X (compareOp .Lt) (rLtL X.K) := by
  rintro pins s σ H x y v u Q I rx ry ⟨a, b, ns, ms, rfl, rfl, ha, hb, q⟩
  cases (show v = Value.ref a from rx)
  cases (show u = Value.ref b from ry)
  obtain ⟨v1, r1, p1, m1⟩ := I.list ha
  obtain ⟨v2, r2, p2, m2⟩ := I.list hb
  have i1 := L2.intsAre_of r1
  have i2 := L2.intsAre_of r2
  have l1 : v1.toArray.size = ns.length := by rw [List.size_toArray, ← paired_len r1, List.length_map]
  have l2 : v2.toArray.size = ms.length := by rw [List.size_toArray, ← paired_len r2, List.length_map]
  have at1 : ∀ (j : Nat) (h : j < v1.toArray.size), ∃ t, v1.toArray[j] = Value.int (ns.getD j 0) t := fun j h => i1.int_at j _ (by simp)
  have at2 : ∀ (j : Nat) (h : j < v2.toArray.size), ∃ t, v2.toArray[j] = Value.int (ms.getD j 0) t := fun j h => i2.int_at j _ (by simp)
  have R := lists_lt (A := X.A) (s := s) (e := fun j => ns.getD j 0 == ms.getD j 0) (r := fun j => decide (ns.getD j 0 < ms.getD j 0)) (plain_is p1) (plain_is p2) hu
    (fun j h1 h2 => by
      obtain ⟨t, e1⟩ := at1 j h1
      obtain ⟨t2, e2⟩ := at2 j h2
      rw [e1, e2]
      exact SeqAt.EqAt.int_int _ _ _ _)
    (fun j h1 h2 _ => by
      obtain ⟨t, e1⟩ := at1 j h1
      obtain ⟨t2, e2⟩ := at2 j h2
      rw [e1, e2]
      exact Ob.RcOp.lt_int _ _ _ _)
  rw [l1, l2, lexAt_ints ns ms _ 0 (Nat.zero_add _)] at R
  exact R X.prog X.w X.xe (EP X pins σ Q) ⟨.bl _, H, I, rfl, q⟩
theorem two_vals {x y : V} {us : List Value} (h : Vals [x, y] us) : ∃ a b, us = [a, b] ∧ RelV x a ∧ RelV y b := by
  cases h with
  | cons a b =>
    cases b with
    | cons b c =>
      cases c
      exact ⟨_, _, rfl, a, b⟩
/-- (n, s) < (m, t) -/
def rLtP (K : PySem.W.Frag) : R2 := fun x y H Q => ∃ a b n m p r, x = .ref a ∧ y = .ref b ∧ SqT K H a [.int n, .str p] ∧ SqT K H b [.int m, .str r] ∧ Q (.bl (if n = m then decide (p.cps.toList < r.cps.toList) else decide (n < m))) H
theorem op_ltP {X : Cx} (hu : X.A.units < cLine) : OpR X (compareOp .Lt) (rLtP X.K) := by
  rintro pins s σ H x y v u Q I rx ry ⟨a, b, n, m, p, r, rfl, rfl, ha, hb, q⟩
  cases (show v = Value.ref a from rx)
  cases (show u = Value.ref b from ry)
  obtain ⟨v1, r1, p1, m1⟩ := I.tuple ha
  obtain ⟨v2, r2, p2, m2⟩ := I.tuple hb
  obtain ⟨x1, x2, rfl, f1, f2⟩ := two_vals r1
  obtain ⟨y1, y2, rfl, g1, g2⟩ := two_vals r2
  obtain ⟨t1, rfl⟩ := f1
  obtain ⟨t2, rfl⟩ := f2
  obtain ⟨t3, rfl⟩ := g1
  obtain ⟨t4, rfl⟩ := g2
  have R := Ob.RcOp.tuples_lt (A := X.A) (s := s) (e := fun j => if j = 0 then n == m else p == r) (r := fun j => if j = 0 then decide (n < m) else decide (p.cps.toList < r.cps.toList)) p1 p2 hu
    (fun j h1 h2 => by
      rcases j with _ | _ | j
      · exact SeqAt.EqAt.int_int _ _ _ _
      · exact SeqAt.EqAt.str_str _ _ _ _
      · exact absurd (show j + 1 + 1 < 2 from h1) (by omega))
    (fun j h1 h2 _ => by
      rcases j with _ | _ | j
      · exact Ob.RcOp.lt_int _ _ _ _
      · exact rc_str _ _ _ _
      · exact absurd (show j + 1 + 1 < 2 from h1) (by omega))
  have e : Ob.lexAt (fun j => if j = 0 then n == m else p == r) (fun j => if j = 0 then decide (n < m) else decide (p.cps.toList < r.cps.toList)) false 0 2 = (if n = m then decide (p.cps.toList < r.cps.toList) else decide (n < m)) := by
    rw [Ob.lexAt_succ, Ob.lexAt_succ, Ob.lexAt_zero]
    by_cases h1 : n = m
    · subst h1
      by_cases h2 : p = r
      · subst h2
        simp
      · simp [h2]
    · simp [h1]
  have z1 : ([Value.int n t1, Value.str p t2].toArray.size) = 2 := rfl
  have z2 : ([Value.int m t3, Value.str r t4].toArray.size) = 2 := rfl
  rw [z1, z2, Nat.min_self, decide_eq_false (Nat.lt_irrefl 2), e] at R
  exact R X.prog X.w X.xe (EP X pins σ Q) ⟨.bl _, H, I, rfl, q⟩
end Gr

set_option Elab.async false
set_option maxRecDepth 100000
set_option maxHeartbeats 4000000
set_option linter.all false
/-! Ours: texts as lists of signs. -/
namespace Gr
open PySem PySem.Spec PyProof.Rows L2
theorem same_upd {H : Hp} {a : Addr} {o : HO} (h : H a = none) : Same H (upd H a o) := fun b u e => by
  rw [upd_ne (ne_of_none e h)]
  exact e
theorem tx_ext {a b : Str} (h : a.cps.toList = b.cps.toList) : a = b := by
  obtain ⟨⟨x⟩⟩ := a
  obtain ⟨⟨y⟩⟩ := b
  cases (show x = y from h)
  rfl
theorem tx_len (z : Str) : z.length = z.cps.toList.length := rfl
theorem tx_app (a b : Str) : (a ++ b).cps.toList = a.cps.toList ++ b.cps.toList := by
  rw [PySem.Str.cps_append]
  exact Array.toList_append
theorem tx_starts (z : Str) (c : Nat) : Txt.startswith z ⟨#[c]⟩ = (z.cps.toList[0]? == some c) := by
  have e := PySem.StrLaws.subAt_one z c 0
  unfold Txt.startswith
  rw [Bool.eq_iff_iff, Bool.and_eq_true, decide_eq_true_eq, beq_iff_eq]
  exact e
theorem tx_last (z : Str) (h : 1 ≤ z.length) : z.cps.toList[z.length - 1]? = z.cps.toList.getLast? := by
  rw [List.getLast?_eq_getElem?]
  rfl
theorem tx_ends (z : Str) (c : Nat) : Txt.endswith z ⟨#[c]⟩ = (z.cps.toList.getLast? == some c) := by
  have e := PySem.StrLaws.subAt_one z c (z.length - 1)
  unfold Txt.endswith
  rw [Bool.eq_iff_iff, Bool.and_eq_true, decide_eq_true_eq, beq_iff_eq]
  have l1 : (⟨#[c]⟩ : Str).length = 1 := rfl
  rw [l1]
  rw [l1] at e
  constructor
  · rintro ⟨h1, h2⟩
    rw [← tx_last z (by omega)]
    exact e.mp ⟨by omega, h2⟩
  · intro h
    have hp : 1 ≤ z.length := by
      rw [tx_len]
      cases q : z.cps.toList with
      | nil =>
        rw [q] at h
        cases h
      | cons a r => simp
    rw [← tx_last z hp] at h
    have := e.mpr h
    exact ⟨by omega, this.2⟩
theorem tx_sub0 (z : Str) (n : Nat) : (Builtin.Str.strSub z 0 n).cps.toList = z.cps.toList.take n := by
  unfold Builtin.Str.strSub
  simp
theorem tx_suffix (z : Str) (c : Nat) : (Txt.removesuffix z ⟨#[c]⟩).cps.toList = if z.cps.toList.getLast? == some c then z.cps.toList.dropLast else z.cps.toList := by
  have e := tx_ends z c
  unfold Txt.endswith at e
  have l1 : (⟨#[c]⟩ : Str).length = 1 := rfl
  rw [l1] at e
  unfold Txt.removesuffix
  rw [l1]
  have e2 : (decide (1 ≤ z.length) && Builtin.Str.subAt z ⟨#[c]⟩ (z.length - 1)) = (z.cps.toList.getLast? == some c) := by
    rw [← e, Nat.zero_add]
  rw [e2]
  cases hq : z.cps.toList.getLast? == some c with
  | false => rfl
  | true =>
    have hp : 1 ≤ z.length := by
      rw [hq] at e2
      rw [Bool.and_eq_true, decide_eq_true_eq] at e2
      exact e2.1
    have ne : ¬ (z.length - 1 - 0 == z.length) = true := by
      rw [beq_iff_eq]
      omega
    show (if (z.length - 1 - 0 == z.length) = true then z else Builtin.Str.strSub z 0 (z.length - 1)).cps.toList = _
    rw [if_neg ne, tx_sub0, if_pos rfl, List.dropLast_eq_take]
    rfl
/-! slices -/
theorem cut_head (z : Str) : (cutS z none (some (-1))).cps.toList = z.cps.toList.dropLast := by
  unfold cutS
  show ((z.cps.toList.drop 0).take (HT.sIx z.length z.length (some (-1)) - 0)) = _
  rw [List.drop_zero, List.dropLast_eq_take, Nat.sub_zero]
  congr 1
  unfold HT.sIx
  rw [tx_len]
  simp
  omega
theorem cut_from (z : Str) (n : Nat) : (cutS z (some (n : Int)) none).cps.toList = z.cps.toList.drop n := by
  unfold cutS
  show ((z.cps.toList.drop (HT.sIx z.length 0 (some (n : Int)))).take (HT.sIx z.length z.length none - HT.sIx z.length 0 (some (n : Int)))) = _
  rw [HT.sIx_nat, HT.sIx_none, tx_len]
  by_cases h : n ≤ z.cps.toList.length
  · rw [Nat.min_eq_left h]
    exact List.take_of_length_le (by rw [List.length_drop]; exact Nat.le_refl _)
  · rw [Nat.min_eq_right (by omega), List.drop_of_length_le (Nat.le_refl _), List.drop_of_length_le (by omega), List.take_nil]
theorem cut_to (z : Str) (n : Nat) : (cutS z none (some (n : Int))).cps.toList = z.cps.toList.take n := by
  unfold cutS
  show ((z.cps.toList.drop 0).take (HT.sIx z.length z.length (some (n : Int)) - 0)) = _
  rw [List.drop_zero, HT.sIx_nat, tx_len, Nat.sub_zero]
  by_cases h : n ≤ z.cps.toList.length
  · rw [Nat.min_eq_left h]
  · rw [Nat.min_eq_right (by omega), List.take_of_length_le (Nat.le_refl _), List.take_of_length_le (by omega)]
theorem lit_slash : ("/" : Str) = ⟨#[47]⟩ := by decide +kernel
theorem lit_dollar : ("$" : Str) = ⟨#[36]⟩ := by decide +kernel
theorem lit_star : ("*" : Str) = ⟨#[42]⟩ := by decide +kernel
theorem str_eq_iff (a b : Str) : a = b ↔ a.cps.toList = b.cps.toList := ⟨fun e => by rw [e], tx_ext⟩
theorem one_inj {a b : Nat} : (⟨#[a]⟩ : Str) = ⟨#[b]⟩ ↔ a = b := by
  constructor
  · intro e
    have := congrArg (fun z : Str => z.cps.toList) e
    simpa using this
  · rintro rfl
    rfl
/-! heaps, comprehensions -/
theorem same_into {H H2 : Hp} {D : Addr} {o : HO} (hD : H D = none) (s : Same H H2) : Same H (upd H2 D o) := fun b u e => (upd_ne (ne_of_none e hD)).trans (s b u e)
theorem wipe1 {σ : L2.St} {j : Nat} {v : Option V} : wipe ((wipe σ [j]).set j v) [j] = wipe σ [j] := by simp [wipe]
/-- o.f within a comprehension's block -/
theorem pe_fldB {X : Cx} {s : Shared} {H : Hp} {sc : Scope} {en : Env} {fp : List Addr} {e : Expr} {f : Str} {pos : Pos} {ta : TE} (he : PE (X.blk s H sc en fp) e ta) (hb : attributeBase e f (X.blk s H sc en fp).env (eval e (X.blk s H sc en fp).env) = eval e (X.blk s H sc en fp).env) :
    PE (X.blk s H sc en fp) (.Attribute e f pos) (tFld X.K ta f) := pe_fld he hb
/-! parts that only look -/
theorem and_pure {ta tb : TE} {σ : L2.St} {H : Hp} {Q : VK} (c1 c2 : Bool) (h1 : ∀ Q' : VK, Q' (.bl c1) H → ta σ H Q') (h2 : c1 = true → ∀ Q' : VK, Q' (.bl c2) H → tb σ H Q') (q : Q (.bl (c1 && c2)) H) : tAndV ta tb σ H Q := by
  refine h1 _ ⟨c1, rfl, ?_⟩
  cases c1 with
  | true => exact if_pos rfl ▸ h2 rfl _ q
  | false => exact q
theorem or_pure {ta tb : TE} {σ : L2.St} {H : Hp} {Q : VK} (c1 c2 : Bool) (h1 : ∀ Q' : VK, Q' (.bl c1) H → ta σ H Q') (h2 : c1 = false → ∀ Q' : VK, Q' (.bl c2) H → tb σ H Q') (q : Q (.bl (c1 || c2)) H) : tOrV ta tb σ H Q := by
  refine h1 _ ⟨c1, rfl, ?_⟩
  cases c1 with
  | false => exact if_neg Bool.false_ne_true ▸ h2 rfl _ q
  | true => exact q
def tTruB (K : PySem.W.Frag) (te : TE) : TT := fun σ H Q => te σ H fun x H' => ∃ k, TruV K x H' k ∧ Q k H'
theorem pt_truthB {X : Cx} {s : Shared} {H : Hp} {sc : Scope} {en : Env} {fp : List Addr} {e : Expr} {te : TE} (he : PE (X.blk s H sc en fp) e te) (hi : ∀ whole, isTrue e (X.blk s H sc en fp).env whole = (do let v ← whole; standAt e.pos; holding [v] (truthy v))) :
    PT (X.blk s H sc en fp) e (tTruB X.K te) := pt_truth he hi
end Gr

set_option linter.all false
/-! Ours: the mathematics of patterns: a table of truths by rows, by columns; places as bits of a number. -/
namespace PM
/-- one row more: the sign c of the body, star or not; r the string, p the row ahead -/
def nrow (star : Bool) (c : Option Nat) (r : List Nat) (p : Nat → Bool) : Nat → Bool
  | 0 => p 0 && star
  | k + 1 => if star then p (k + 1) || nrow star c r p k else p k && (c == r[k]?)
def isSt (b : List Nat) (i : Nat) : Bool := b[i]? == some 42
/-- the first i signs of b fit the first k of r -/
def F (b r : List Nat) : Nat → Nat → Bool
  | 0 => fun k => k == 0
  | i + 1 => nrow (isSt b i) b[i]? r (F b r i)
theorem F_zero (b r : List Nat) (k : Nat) : F b r 0 k = (k == 0) := rfl
theorem F_succ_zero (b r : List Nat) (i : Nat) : F b r (i + 1) 0 = (F b r i 0 && isSt b i) := rfl
theorem F_succ (b r : List Nat) (i k : Nat) : F b r (i + 1) (k + 1) = if isSt b i then F b r i (k + 1) || F b r (i + 1) k else F b r i k && (b[i]? == r[k]?) := rfl

/-- a body that begins with a sign fits nothing at the empty string -/
theorem F_begin {b : List Nat} (r : List Nat) (h : isSt b 0 = false) : ∀ i, F b r i 0 = (i == 0)
  | 0 => rfl
  | 1 => by rw [F_succ_zero, h]; cases F b r 0 0 <;> rfl
  | i + 2 => by
    rw [F_succ_zero, F_begin r h (i + 1)]
    rfl

/-- only the first k signs of the string matter -/
theorem F_local {b r r' : List Nat} : ∀ (i k : Nat), (∀ j, j < k → r[j]? = r'[j]?) → F b r i k = F b r' i k
  | 0, k, _ => rfl
  | i + 1, 0, h => by rw [F_succ_zero, F_succ_zero, F_local i 0 h]
  | i + 1, k + 1, h => by
    have h' : ∀ j, j < k → r[j]? = r'[j]? := fun j hj => h j (Nat.lt_succ_of_lt hj)
    rw [F_succ, F_succ, F_local i (k + 1) h, F_local (i + 1) k h', F_local i k h', h k (Nat.lt_succ_self k)]
/-- only the first i signs of the body matter -/
theorem F_body {b b' r : List Nat} : ∀ (i k : Nat), (∀ j, j < i → b[j]? = b'[j]?) → F b r i k = F b' r i k
  | 0, k, _ => rfl
  | i + 1, 0, h => by
    rw [F_succ_zero, F_succ_zero, F_body i 0 (fun j hj => h j (Nat.lt_succ_of_lt hj))]
    unfold isSt
    rw [h i (Nat.lt_succ_self i)]
  | i + 1, k + 1, h => by
    have h' : ∀ j, j < i → b[j]? = b'[j]? := fun j hj => h j (Nat.lt_succ_of_lt hj)
    rw [F_succ, F_succ, F_body i (k + 1) h', F_body (i + 1) k h, F_body i k h']
    unfold isSt
    rw [h i (Nat.lt_succ_self i)]
/-- a star at the end takes one sign more -/
theorem F_star {b r : List Nat} {i k : Nat} (h : isSt b i = true) (f : F b r (i + 1) k = true) : F b r (i + 1) (k + 1) = true := by
  rw [F_succ, if_pos h, f, Bool.or_true]
theorem F_stars {b r : List Nat} {i k : Nat} (h : isSt b i = true) (f : F b r (i + 1) k = true) : ∀ n, F b r (i + 1) (k + n) = true
  | 0 => f
  | n + 1 => F_star h (F_stars h f n)
/-- without stars just the string itself is fitted -/
theorem F_plain {b r : List Nat} (h : ∀ i, isSt b i = false) : ∀ i k, i ≤ b.length → k ≤ r.length → (F b r i k = true ↔ b.take i = r.take k)
  | 0, 0, _, _ => by simp [F]
  | 0, k + 1, _, hk => by
    rw [F_zero]
    constructor
    · intro e
      cases e
    · intro e
      have := congrArg List.length e
      rw [List.length_take, List.length_take] at this
      omega
  | i + 1, 0, hi, _ => by
    rw [F_succ_zero, h i, Bool.and_false]
    constructor
    · intro e
      cases e
    · intro e
      have := congrArg List.length e
      rw [List.length_take, List.length_take] at this
      omega
  | i + 1, k + 1, hi, hk => by
    have hi' : i < b.length := hi
    have hk' : k < r.length := hk
    rw [F_succ, h i, if_neg Bool.false_ne_true, Bool.and_eq_true, F_plain h i k (Nat.le_of_lt hi') (Nat.le_of_lt hk'), List.getElem?_eq_getElem hi', List.getElem?_eq_getElem hk',
      beq_iff_eq, Option.some_inj, List.take_succ_eq_append_getElem hi', List.take_succ_eq_append_getElem hk']
    constructor
    · rintro ⟨e1, e2⟩
      rw [e1, e2]
    · intro e
      have el : (b.take i).length = (r.take k).length := by
        have := congrArg List.length e
        rw [List.length_append, List.length_append] at this
        simpa using this
      obtain ⟨e1, e2⟩ := List.append_inj e el
      exact ⟨e1, by simpa using e2⟩

/-! ### numbers as sets of places -/
def bits (f : Nat → Bool) : Nat → Nat
  | 0 => 0
  | n + 1 => bits f n ||| (if f n then 2 ^ n else 0)
theorem testBit_pow (n i : Nat) : (2 ^ n).testBit i = decide (n = i) := Nat.testBit_two_pow ..
theorem bits_test (f : Nat → Bool) : ∀ n i, (bits f n).testBit i = (decide (i < n) && f i)
  | 0, i => by simp [bits]
  | n + 1, i => by
    unfold bits
    rw [Nat.testBit_or, bits_test f n i]
    by_cases hi : i = n
    · subst hi
      cases hf : f i <;> simp [testBit_pow]
    · have h1 : decide (i < n + 1) = decide (i < n) := by
        apply decide_eq_decide.mpr
        omega
      rw [h1]
      cases hf : f n
      · simp
      · have : ¬ n = i := fun e => hi e.symm
        simp [testBit_pow, this]
theorem bits_lt (f : Nat → Bool) (n : Nat) : bits f n < 2 ^ n := by
  induction n with
  | zero => exact Nat.zero_lt_one
  | succ n ih =>
    unfold bits
    refine Nat.or_lt_two_pow (Nat.lt_trans ih (Nat.pow_lt_pow_right (by decide) (Nat.lt_succ_self n))) ?_
    cases f n
    · exact Nat.two_pow_pos _
    · exact Nat.pow_lt_pow_right (by decide) (Nat.lt_succ_self n)
theorem eq_of_test {a b : Nat} (h : ∀ i, a.testBit i = b.testBit i) : a = b := Nat.eq_of_testBit_eq h
theorem lt_of_test {a n : Nat} (h : ∀ i, n ≤ i → a.testBit i = false) : a < 2 ^ n := Nat.lt_pow_two_of_testBit a h

/-- the body's stars; those places kept by any sign; the places that a sign leads on from -/
def starsOf (b : List Nat) (n : Nat) : Nat := bits (isSt b) n
def heldOf (b : List Nat) (n : Nat) : Nat := bits (isSt b) n * 2
def moveOf (b : List Nat) (c : Nat) (n : Nat) : Nat := bits (fun i => !isSt b i && (b[i]? == some c)) n

theorem mul2_test (a i : Nat) : (a * 2).testBit i = (decide (0 < i) && a.testBit (i - 1)) := by
  have := Nat.testBit_mul_two_pow a i 1
  rw [Nat.pow_one] at this
  rw [this]
  rfl
theorem mul2_or (a b : Nat) : (a ||| b) * 2 = a * 2 ||| b * 2 := by
  refine eq_of_test fun i => ?_
  rw [mul2_test, Nat.testBit_or, Nat.testBit_or, mul2_test, mul2_test]
  cases decide (0 < i) <;> simp

/-- one turn of the closing -/
def grow (st s : Nat) : Nat := s ||| (s &&& st) * 2
theorem grow_test (st s i : Nat) : (grow st s).testBit i = (s.testBit i || (decide (0 < i) && (s.testBit (i - 1) && st.testBit (i - 1)))) := by
  unfold grow
  rw [Nat.testBit_or, mul2_test, Nat.testBit_and]
/-- what closing comes to -/
def clo (st s : Nat → Bool) : Nat → Bool
  | 0 => s 0
  | i + 1 => s (i + 1) || (clo st s i && st i)
theorem clo_of {st s c : Nat} {s0 : Nat → Bool} (h0 : ∀ i, s0 i = true → s.testBit i = true) (h1 : ∀ i, s.testBit i = true → clo (st.testBit ·) s0 i = true) (hf : grow st s = s) :
    ∀ i, s.testBit i = clo (st.testBit ·) s0 i
  | 0 => by
    rw [Bool.eq_iff_iff]
    exact ⟨h1 0, fun e => h0 0 e⟩
  | i + 1 => by
    rw [Bool.eq_iff_iff]
    refine ⟨h1 _, fun e => ?_⟩
    unfold clo at e
    rw [Bool.or_eq_true] at e
    rcases e with e | e
    · exact h0 _ e
    · rw [← clo_of (c := c) h0 h1 hf i] at e
      rw [← hf, grow_test]
      simp only [Nat.succ_sub_one, Nat.zero_lt_succ, decide_true, Bool.true_and]
      rw [e, Bool.or_true]
theorem grow_sub {st s : Nat} {s0 : Nat → Bool} (h1 : ∀ i, s.testBit i = true → clo (st.testBit ·) s0 i = true) : ∀ i, (grow st s).testBit i = true → clo (st.testBit ·) s0 i = true := by
  intro i e
  rw [grow_test, Bool.or_eq_true] at e
  rcases e with e | e
  · exact h1 i e
  · cases i with
    | zero => cases e
    | succ i =>
      simp only [Nat.succ_sub_one, Nat.zero_lt_succ, decide_true, Bool.true_and, Bool.and_eq_true] at e
      unfold clo
      rw [h1 i e.1, e.2]
      simp
theorem grow_ge (st s : Nat) : s ≤ grow st s := Nat.left_le_or
theorem grow_keeps {st s : Nat} {i : Nat} (h : s.testBit i = true) : (grow st s).testBit i = true := by
  rw [grow_test, h]
  rfl
theorem grow_lt {st s n : Nat} (hs : s < 2 ^ (n + 1)) (ht : st < 2 ^ n) : grow st s < 2 ^ (n + 1) := by
  unfold grow
  refine Nat.or_lt_two_pow hs ?_
  have h1 : s &&& st < 2 ^ n := Nat.lt_of_le_of_lt Nat.and_le_right ht
  rw [Nat.pow_succ]
  omega

/-- a step: the bits ahead of closing -/
def stepped (b : List Nat) (n s c : Nat) : Nat := (s &&& moveOf b c n) * 2 ||| (s &&& heldOf b n)
theorem stepped_test (b : List Nat) (n s c i : Nat) : (stepped b n s c).testBit i = (decide (0 < i) && ((s.testBit (i - 1) && (moveOf b c n).testBit (i - 1)) || (s.testBit i && (bits (isSt b) n).testBit (i - 1)))) := by
  unfold stepped heldOf
  rw [Nat.testBit_or, mul2_test, Nat.testBit_and, Nat.testBit_and, mul2_test]
  cases decide (0 < i) <;> simp
/-- the places at the first k signs, as a number -/
def Pl (b r : List Nat) (k s : Nat) : Prop := ∀ i, s.testBit i = (decide (i ≤ b.length) && F b r i k)
theorem clo_step {b r : List Nat} {k s c : Nat} (hs : Pl b r k s) (hc : r[k]? = some c) : ∀ i, clo ((starsOf b b.length).testBit ·) ((stepped b b.length s c).testBit ·) i = (decide (i ≤ b.length) && F b r i (k + 1))
  | 0 => by
    unfold clo
    rw [stepped_test, F_zero]
    simp
  | i + 1 => by
    have sti : (starsOf b b.length).testBit i = isSt b i := by
      unfold starsOf
      rw [bits_test]
      by_cases hi : i < b.length
      · simp [hi]
      · unfold isSt
        rw [List.getElem?_eq_none (Nat.le_of_not_lt hi)]
        simp
    unfold clo
    rw [clo_step hs hc i, stepped_test, sti]
    simp only [Nat.succ_sub_one, Nat.zero_lt_succ, decide_true, Bool.true_and]
    rw [hs i, hs (i + 1)]
    unfold moveOf
    rw [bits_test, bits_test]
    by_cases hi : i < b.length
    · have h1 : decide (i ≤ b.length) = true := decide_eq_true (Nat.le_of_lt hi)
      have h2 : decide (i + 1 ≤ b.length) = true := decide_eq_true hi
      have h3 : decide (i < b.length) = true := decide_eq_true hi
      rw [h1, h2, h3, F_succ, hc]
      cases hst : isSt b i
      · simp
      · simp [Bool.or_comm]
    · have h2 : decide (i + 1 ≤ b.length) = false := decide_eq_false (by omega)
      have h3 : decide (i < b.length) = false := decide_eq_false hi
      have h4 : isSt b i = false := by
        unfold isSt
        rw [List.getElem?_eq_none (Nat.le_of_not_lt hi)]
        rfl
      rw [h2, h3, h4]
      simp
end PM

set_option Elab.async false
set_option maxRecDepth 100000
set_option maxHeartbeats 4000000
set_option linter.all false
/-! Ours: the law's call where tables of code objects may grow, by a promise for calls where no repr is under way. -/
namespace Gr
open PySem PySem.Spec PyProof.Rows L2 GxR
/-- what is tracked at the law's call: the tables at ts, and the script where it is not written -/
def startH (ts : List Addr) (a : Addr) (o : Option HO) : Hp := fun b => if b ∈ ts then some (.tbl #[]) else if b = a then o else none
theorem startH_tab {ts : List Addr} {a b : Addr} {o : Option HO} (h : b ∈ ts) : startH ts a o b = some (.tbl #[]) := if_pos h
theorem startH_at {ts : List Addr} {a : Addr} {o : Option HO} (h : a ∉ ts) : startH ts a o a = o := (if_neg h).trans (if_pos rfl)
theorem startH_inv {ts : List Addr} {a b : Addr} {o : Option HO} {u : HO} (h : startH ts a o b = some u) : (b ∈ ts ∧ u = .tbl #[]) ∨ (b ∉ ts ∧ b = a ∧ o = some u) := by
  unfold startH at h
  by_cases h1 : b ∈ ts
  · rw [if_pos h1] at h
    exact .inl ⟨h1, (Option.some.inj h).symm⟩
  · rw [if_neg h1] at h
    by_cases h2 : b = a
    · rw [if_pos h2] at h
      exact .inr ⟨h1, h2, h⟩
    · rw [if_neg h2] at h
      cases h
abbrev tabO (more : Array Value) : Obj := { cls := .none, data := .fields more }
theorem law_callQT {P : Program} {w : World} {K : PySem.W.Frag} {mg mb : Str → Option Value} {k : Nat} {fa a : Addr} {cs : List (Addr × Addr)} {fd : FuncData} {x : Str} {sp : Sp} {z : Shared} {vs : List Value} {ns : List Int}
    (KX : K.In z.heap) (G : z.heap.Ns mainGlobals mg) (B : z.heap.Ns builtinsNs mb) (B2 : ∀ x : Str, x ≠ "__name__" → mb x = bootBuiltins x) (L : z.heap.NoLimit) (G0 : z.gens = #[])
    (hT : ∀ p ∈ cs, z.heap.get? p.2 = some (tabO #[])) (nT : ∀ p ∈ cs, K.lookup p.2 = none) (C : ∀ p ∈ cs, PySem.W.CodeHd z.heap p.1 p.2)
    (M : ∃ (bm : Addr) (ob : Obj), mg "__builtins__" = some (.ref bm) ∧ bm ≠ builtinsNs ∧ z.heap.get? bm = some ob ∧ ob.cls = .type "module" ∧ ob.dict = some builtinsNs ∧ ob.data = .plain)
    (ha : z.heap.get? a = some { cls := .type "list", data := .seq vs.toArray }) (hi : IntsAre vs ns) (hl : ns.length ≤ sizeLine) (hr : Room k callerA)
    (F : ∀ base : Heap, K.In base → base.Ns mainGlobals mg → (∀ p ∈ cs, TabB base mg p.1 p.2) → FnQ P w K mg base CX0 k fa fd [x] sp) (hb : ∀ (s : Shared) (u : Value), BindsTo s fd ⟨[u], []⟩ [(x, u)])
    (hsp : ∀ H : Hp, (∀ p ∈ cs, H p.2 = some (.tbl #[])) → SqL K H a (ns.map V.int) → sp [.ref a] H (fun v _ => v = .bl true) fun _ _ _ => False) :
    codeAny (model P w) callerA (.call (.ref fa) ⟨[.ref a], []⟩) (fun r s' => r = .ok (.ret (.bool true)) ∧ OldK z.heap s'.heap ∧ s'.os = z.os ∧ AllBare s'.gens) z := by
  generalize hts : cs.map (·.2) = ts
  have inT : ∀ p ∈ cs, p.2 ∈ ts := fun p hp => by rw [← hts]; exact List.mem_map.mpr ⟨p, hp, rfl⟩
  have ofT : ∀ b ∈ ts, ∃ p ∈ cs, p.2 = b := fun b hb => by rw [← hts] at hb; exact List.mem_map.mp hb
  have atT : ∀ b ∈ ts, z.heap.get? b = some (tabO #[]) := fun b hb => by obtain ⟨p, hp, e⟩ := ofT b hb; rw [← e]; exact hT p hp
  have rv := vals_ints hi
  have lenV := hi.length
  have aT : a ∉ ts := fun q => by
    have e := ha.symm.trans (atT a q)
    cases e
  -- in both ways the script may stand: written, or tracked
  have core : ∀ o : Option HO, (o = none ∨ o = some (.frz { cls := .type "list", data := .seq vs.toArray } (.lst (ns.map V.int)))) → (o ≠ none → K.lookup a = none) → SqL K (startH ts a o) a (ns.map V.int) →
      codeAny (model P w) callerA (.call (.ref fa) ⟨[.ref a], []⟩) (fun r s' => r = .ok (.ret (.bool true)) ∧ OldK z.heap s'.heap ∧ s'.os = z.os ∧ AllBare s'.gens) z := by
    intro o ho hK hS
    generalize hH : startH ts a o = H at hS
    have tab : ∀ b ∈ ts, H b = some (.tbl #[]) := fun b q => by rw [← hH]; exact startH_tab q
    have inv : ∀ {b : Addr} {u : HO}, H b = some u → (b ∈ ts ∧ u = .tbl #[]) ∨ (b ∉ ts ∧ b = a ∧ u = .frz { cls := .type "list", data := .seq vs.toArray } (.lst (ns.map V.int)) ∧ K.lookup a = none) := fun {b u} e => by
      rw [← hH] at e
      rcases startH_inv e with q | ⟨q1, q2, q3⟩
      · exact .inl q
      · rcases ho with e1 | e1
        · rw [e1] at q3; cases q3
        · rw [e1] at q3
          exact .inr ⟨q1, q2, (Option.some.inj q3).symm, hK (by rw [e1]; exact fun q => nomatch q)⟩
    have hok : HOk P w H z.heap := fun b u e => by
      rcases inv e with ⟨q, rfl⟩ | ⟨_, rfl, rfl, _⟩
      · exact atT b q
      · exact ⟨ha, by rw [List.length_map]; exact hl, vs, _, rv, ha⟩
    -- what is neither a list nor an empty table is seen in the base
    have seen : ∀ {b : Addr} {ob : Obj}, z.heap.get? b = some ob → (∀ us n, ob.data ≠ .seq us n) → ob.data ≠ .fields #[] → (hidT z.heap H).get? b = some ob := fun {b ob} e h1 h2 => hidT_get e (by
      cases q : H b with
      | none => rfl
      | some u =>
        rcases inv q with ⟨q1, _⟩ | ⟨_, rfl, _, _⟩
        · rw [atT b q1] at e
          cases e
          exact absurd rfl h2
        · rw [ha] at e
          cases e
          exact absurd rfl (h1 _ _))
    have seenD : ∀ {b : Addr} {m : Str → Option Value}, z.heap.Ns b m → (hidT z.heap H).Ns b m := fun {b m} ⟨ob, es, ep, e, d, r⟩ =>
      ⟨ob, es, ep, seen e (fun us n q => by rw [d] at q; cases q) (fun q => by rw [d] at q; cases q), d, r⟩
    have KB : K.In (hidT z.heap H) := fun b ob e => hidT_get (KX b ob e) (by
      cases q : H b with
      | none => rfl
      | some u =>
        rcases inv q with ⟨q1, _⟩ | ⟨_, rfl, _, q2⟩
        · obtain ⟨p, hp, ep⟩ := ofT b q1
          rw [← ep, nT p hp] at e
          cases e
        · rw [q2] at e
          cases e)
    have MB : Mod K mg (hidT z.heap H) := ⟨KB, seenD G, ⟨mb, seenD B, B2⟩, let ⟨mc, h1, h2⟩ := L; ⟨mc, seenD h1, h2⟩⟩
    have TB : ∀ p ∈ cs, TabB (hidT z.heap H) mg p.1 p.2 := fun p hp => by
      refine ⟨?_, ?_, fun q => ?_⟩
      · obtain ⟨ob, us, file, tf, flags, tg, inF, text, tt, e1, r1, r2, r3, rest⟩ := C p hp
        refine ⟨ob, us, file, tf, flags, tg, inF, text, tt, seen e1 (fun us' n q => by rw [r2] at q; cases q) (fun q => ?_), r1, r2, r3, rest⟩
        rw [r2] at q
        cases q
        cases r3
      · obtain ⟨bm, ob, b1, b2, b3, b4, b5, b6⟩ := M
        refine ⟨bm, ob, b1, b2, fun q => ?_, fun q => ?_, seen b3 (fun us n q => by rw [b6] at q; cases q) (fun q => by rw [b6] at q; cases q), b4, b5, b6⟩
        · obtain ⟨ob', es, ep, e, hd, _⟩ := G
          rw [q, e] at b3
          cases b3
          rw [hd] at b6
          cases b6
        · rw [q, hT p hp] at b3
          cases b3
          cases b6
      · obtain ⟨ob, es, ep, e, hd, _⟩ := G
        rw [q, hT p hp] at e
        cases e
        cases hd
    have nofr : ∀ b, b ∉ frs ([] : List Env) := fun b q => nomatch q
    have e0 : Env0 P w K mg (hidT z.heap H) callerA [] z H := ⟨rfl, MB, fun b ob e => of_hidT e, Nat.le_of_eq (hidT_size _ _), trivial, fun b q => absurd q (nofr b), hok, .of_eq G0⟩
    refine codeAny_mono ((F _ KB (seenD G) TB).run callerA [] z H ⟨[.ref a], []⟩ [.ref a] [.ref a] _ _ rfl hr e0 (hb z (.ref a)) (.cons rfl .nil) (hsp H (fun p hp => tab _ (inT p hp)) hS)) fun r s' h => ?_
    match r, h with
    | .error e, h => exact False.elim h
    | .ok (.ret u), h =>
      obtain ⟨v, H', os, bare, un, hok', r', q⟩ := h
      have q' : v = .bl true := q
      subst q'
      obtain rfl : u = Value.bool true := r'
      have kept : ∀ b ob, b ∉ ts → z.heap.get? b = some ob → s'.heap.get? b = some ob := fun b ob nb e => by
        cases q : H b with
        | none => exact un.keep b ob e q (nofr b) (fun q => nomatch q)
        | some u =>
          rcases inv q with ⟨q1, _⟩ | ⟨_, _, rfl, _⟩
          · exact absurd q1 nb
          · have e1 := (hok b _ q).1
            have e2 := (hok' b _ (un.frzs b _ _ q)).1
            exact e2.trans (e1.symm.trans e)
      have more : ∀ b ∈ ts, ∃ m : Array Value, s'.heap.get? b = some (tabO m) := fun b q => by
        obtain ⟨m, e⟩ := un.tbls b #[] (tab b q)
        exact ⟨_, hok' b _ e⟩
      refine ⟨rfl, ⟨fun b ob e => ?_, fun b ob e => ?_⟩, os, bare⟩
      · by_cases hbt : b ∈ ts
        · obtain ⟨p, hp, rfl⟩ := ofT b hbt
          obtain ⟨m, e2⟩ := more _ hbt
          rw [hT p hp] at e
          cases e
          exact .inr (.inl ⟨((C p hp).tab (hT p hp)).isCodeTable, rfl, #[], m, rfl, by rw [Array.empty_append]; exact e2⟩)
        · exact .inl (kept b ob hbt e)
      · by_cases hbt : b ∈ ts
        · exact (more b hbt).elim fun m e2 => ⟨_, e2⟩
        · exact ⟨ob, kept b ob hbt e⟩
  cases hk : K.lookup a with
  | some ob =>
    have e := KX a ob hk
    rw [ha] at e
    cases e
    exact core none (.inl rfl) (fun q => absurd rfl q) (.inr ⟨_, vs.toArray, _, hk, rfl, rfl, rfl, by rw [List.size_toArray, lenV]; exact hl, by simpa using rv⟩)
  | none => exact core _ (.inr rfl) (fun _ => hk) (.inl (.inr ⟨_, startH_at aT⟩))
/-- what the head leaves, from such a promise -/
theorem walk_ofQT {l : PySem.W.OpenLaw} {n k : Nat} {q : Program} {loose : List Str} {XP : (Str → Option Value) → Heap → Prop} {YP : World → Heap → Prop} {d : DefRec} {K : Params → PySem.W.Frag} {x : Str}
    (hn : l.most = some n) (hn2 : n ≤ sizeLine) (hdf : d.params.defaults = []) (hr : Room k callerA) (hY : ∀ (w : World) (h : Heap), YP w h → (K w.params).In h)
    (F : ∀ (w : World) (mg : Str → Option Value) (fa : Addr) (h : Heap), YP w h → (K w.params).In h → h.Ns mainGlobals mg → mg d.name = some (.ref fa) →
      ∃ (fd : FuncData) (cs : List (Addr × Addr)) (sp : Sp), (∀ p ∈ cs, h.get? p.2 = some (tabO #[])) ∧ (∀ p ∈ cs, (K w.params).lookup p.2 = none) ∧ (∀ p ∈ cs, PySem.W.CodeHd h p.1 p.2) ∧ (∀ (s : Shared) (u : Value), BindsTo s fd ⟨[u], []⟩ [(x, u)]) ∧
        (∀ (H : Hp) (a : Addr) (ns : List Int), ns.length ≤ n → (∀ p ∈ cs, H p.2 = some (.tbl #[])) → SqL (K w.params) H a (ns.map V.int) → sp [.ref a] H (fun v _ => v = .bl true) fun _ _ _ => False) ∧
        ∀ base : Heap, (K w.params).In base → base.Ns mainGlobals mg → (∀ p ∈ cs, TabB base mg p.1 p.2) → FnQ l.prog w (K w.params) mg base CX0 k fa fd [x] sp) :
    PySem.W.WalkO q loose XP YP l.row.toRowW d [] (fun f vs => PySem.call f vs) := by
  refine Att.attach_call hn hdf fun w _ z mg _ fa _ _ _ _ a vs ns G Y _ _ _ hmg hobj hints hlen hg => ?_
  have KX := hY w _ Y
  obtain ⟨fd, cs, sp, hT, nT, C, hb, hsp, hF⟩ := F w mg fa _ Y KX G.T.g hmg
  exact law_callQT KX G.T.g G.T.b G.T.builtins G.T.nolimit hg hT nT C G.T.bmain hobj hints (Nat.le_trans hlen hn2) hr hF hb fun H hH hS => hsp H a ns hlen hH hS
end Gr

set_option Elab.async false
set_option maxRecDepth 100000
set_option maxHeartbeats 4000000
set_option linter.all false
namespace KP
open PySem PySem.Spec PyProof.Rows L2 Gr GxR
def top (i : Nat) : Stmt := PySem.Challenge.pw_gentlerounds_k02_names_paths_and_values.main.body.getD i (.Pass ⟨0, 0, 0, 0⟩)
abbrev s_is_name : Stmt := top 8
abbrev s_is_path : Stmt := top 9
abbrev s_check_path : Stmt := top 10
abbrev s_signs_of_paths : Stmt := top 11
abbrev s_is_lesser : Stmt := top 12
abbrev s_is_whole : Stmt := top 14
abbrev s_is_between : Stmt := top 15
abbrev s_is_fraction : Stmt := top 16
abbrev s_is_tuple : Stmt := top 17
abbrev s_put_at : Stmt := top 18
abbrev s_is_pattern : Stmt := top 21
abbrev s_l_well : Stmt := top 23
abbrev s_l_pick : Stmt := top 24
abbrev s_l_one : Stmt := top 25
abbrev s_l_signs : Stmt := top 26
abbrev s_l_is_whole : Stmt := top 27
abbrev s_l_odd : Stmt := top 28
abbrev s_l_is_name : Stmt := top 29
abbrev s_l_is_path : Stmt := top 30
abbrev s_l_is_pattern : Stmt := top 31
abbrev s_l_lesser : Stmt := top 32
abbrev s_l_divisor : Stmt := top 33
abbrev s_l_is_fraction : Stmt := top 34
abbrev s_l_text : Stmt := top 35
abbrev s_l_value_right : Stmt := top 36
abbrev s_l_order_right : Stmt := top 37
abbrev s_l_right : Stmt := top 38
abbrev s_law : Stmt := top 39
/-- a def whose code object stands at c -/
structure FunC (K : PySem.W.Frag) (x ql : Str) (st : Stmt) (f : Addr) (fd : FuncData) (c : Addr) : Prop where
  ex : ∃ (oc : Value) (od : Option Addr) (kV doc pm : Value) (an : Option Addr) (ct : Value) (osl : Array (Option Value)),
    fd = PySem.W.fnOf x ql (defArgs st) (defBody st) (defScope st) .none kV doc pm an (.ref c) ct ∧ K.lookup f = some ⟨oc, od, .func fd, osl⟩ ∧ PySem.W.codeIn K (.ref c) ql = true
  kp : PySem.W.keepIn K (.ref f) = true
theorem FunC.fun {K : PySem.W.Frag} {x ql : Str} {st : Stmt} {f : Addr} {fd : FuncData} {c : Addr} (F : FunC K x ql st f fd c) : Fun K x ql st f fd := by
  obtain ⟨⟨oc, od, kV, doc, pm, an, ct, osl, e1, e2, e3⟩, kp⟩ := F
  exact ⟨⟨oc, od, kV, doc, pm, an, .ref c, ct, osl, e1, e2, e3⟩, kp⟩
/-- such a def by its body; its code object is known there -/
theorem FunC.ok {P : Program} {w : World} {K : PySem.W.Frag} {mg : Str → Option Value} {base : Heap} {x ql : Str} {st : Stmt} {f c : Addr} {fd : FuncData} {N ps : List Str} {k : Nat} {sp : Sp} (F : FunC K x ql st f fd c) (S : FnScope N ps (defScope st)) (len : ∀ vs H Q E, sp vs H Q E → vs.length = ps.length)
    (hb : ∀ (A : Around) (outer : List Env) (s : Shared) (H : Hp) (vs : List V) (Q : VK) (E : XK), Room k (A.deeper (envOfC ql (defScope st) s.heap.objs.size f (.ref c))) → sp vs H Q E →
      ∃ t, PSs (cxOf CX0 P w K mg base N ql (defScope st) f (.ref c) A outer s H E).nox (defBody st) t ∧ t { nx := fun _ H' => Q .non H', rt := Q } (start N vs) H) : FnOk P w K mg base CX0 (k + 1) f fd ps sp := by
  obtain ⟨oc, od, kV, doc, pm, an, ct, osl, rfl, lk, hcd⟩ := F.ex
  refine fn_of lk hcd S len fun A outer s H vs Q E hr hsp => ?_
  obtain ⟨t, h, q⟩ := hb A outer s H vs Q E hr hsp
  exact ⟨t, h.nox, q⟩
structure D (K : PySem.W.Frag) (mg : Str → Option Value) where
  f_is_name : Addr
  d_is_name : FuncData
  c_is_name : Addr
  P_is_name : Addr
  V_is_name : FunC K "is_name" "is_name" s_is_name f_is_name d_is_name c_is_name
  g_is_name : mg "is_name" = some (.ref f_is_name)
  f_is_path : Addr
  d_is_path : FuncData
  c_is_path : Addr
  P_is_path : Addr
  V_is_path : FunC K "is_path" "is_path" s_is_path f_is_path d_is_path c_is_path
  g_is_path : mg "is_path" = some (.ref f_is_path)
  f_check_path : Addr
  d_check_path : FuncData
  U_check_path : Fun K "check_path" "check_path" s_check_path f_check_path d_check_path
  g_check_path : mg "check_path" = some (.ref f_check_path)
  f_signs_of_paths : Addr
  d_signs_of_paths : FuncData
  U_signs_of_paths : Fun K "signs_of_paths" "signs_of_paths" s_signs_of_paths f_signs_of_paths d_signs_of_paths
  g_signs_of_paths : mg "signs_of_paths" = some (.ref f_signs_of_paths)
  f_is_lesser : Addr
  d_is_lesser : FuncData
  U_is_lesser : Fun K "is_lesser" "is_lesser" s_is_lesser f_is_lesser d_is_lesser
  g_is_lesser : mg "is_lesser" = some (.ref f_is_lesser)
  f_is_whole : Addr
  d_is_whole : FuncData
  U_is_whole : Fun K "is_whole" "is_whole" s_is_whole f_is_whole d_is_whole
  g_is_whole : mg "is_whole" = some (.ref f_is_whole)
  f_is_between : Addr
  d_is_between : FuncData
  U_is_between : Fun K "is_between" "is_between" s_is_between f_is_between d_is_between
  g_is_between : mg "is_between" = some (.ref f_is_between)
  f_is_fraction : Addr
  d_is_fraction : FuncData
  U_is_fraction : Fun K "is_fraction" "is_fraction" s_is_fraction f_is_fraction d_is_fraction
  g_is_fraction : mg "is_fraction" = some (.ref f_is_fraction)
  f_is_tuple : Addr
  d_is_tuple : FuncData
  U_is_tuple : Fun K "is_tuple" "is_tuple" s_is_tuple f_is_tuple d_is_tuple
  g_is_tuple : mg "is_tuple" = some (.ref f_is_tuple)
  f_put_at : Addr
  d_put_at : FuncData
  U_put_at : Fun K "put_at" "put_at" s_put_at f_put_at d_put_at
  g_put_at : mg "put_at" = some (.ref f_put_at)
  f_is_pattern : Addr
  d_is_pattern : FuncData
  c_is_pattern : Addr
  P_is_pattern : Addr
  V_is_pattern : FunC K "is_pattern" "is_pattern" s_is_pattern f_is_pattern d_is_pattern c_is_pattern
  g_is_pattern : mg "is_pattern" = some (.ref f_is_pattern)
  f_l_well : Addr
  d_l_well : FuncData
  U_l_well : Fun K "_law_well" "_law_well" s_l_well f_l_well d_l_well
  g_l_well : mg "_law_well" = some (.ref f_l_well)
  f_l_pick : Addr
  d_l_pick : FuncData
  U_l_pick : Fun K "_law_pick" "_law_pick" s_l_pick f_l_pick d_l_pick
  g_l_pick : mg "_law_pick" = some (.ref f_l_pick)
  f_l_one : Addr
  d_l_one : FuncData
  U_l_one : Fun K "_law_one" "_law_one" s_l_one f_l_one d_l_one
  g_l_one : mg "_law_one" = some (.ref f_l_one)
  f_l_signs : Addr
  d_l_signs : FuncData
  U_l_signs : Fun K "_law_signs" "_law_signs" s_l_signs f_l_signs d_l_signs
  g_l_signs : mg "_law_signs" = some (.ref f_l_signs)
  f_l_is_whole : Addr
  d_l_is_whole : FuncData
  U_l_is_whole : Fun K "_law_is_whole" "_law_is_whole" s_l_is_whole f_l_is_whole d_l_is_whole
  g_l_is_whole : mg "_law_is_whole" = some (.ref f_l_is_whole)
  f_l_odd : Addr
  d_l_odd : FuncData
  U_l_odd : Fun K "_law_odd" "_law_odd" s_l_odd f_l_odd d_l_odd
  g_l_odd : mg "_law_odd" = some (.ref f_l_odd)
  f_l_is_name : Addr
  d_l_is_name : FuncData
  U_l_is_name : Fun K "_law_is_name" "_law_is_name" s_l_is_name f_l_is_name d_l_is_name
  g_l_is_name : mg "_law_is_name" = some (.ref f_l_is_name)
  f_l_is_path : Addr
  d_l_is_path : FuncData
  U_l_is_path : Fun K "_law_is_path" "_law_is_path" s_l_is_path f_l_is_path d_l_is_path
  g_l_is_path : mg "_law_is_path" = some (.ref f_l_is_path)
  f_l_is_pattern : Addr
  d_l_is_pattern : FuncData
  U_l_is_pattern : Fun K "_law_is_pattern" "_law_is_pattern" s_l_is_pattern f_l_is_pattern d_l_is_pattern
  g_l_is_pattern : mg "_law_is_pattern" = some (.ref f_l_is_pattern)
  f_l_lesser : Addr
  d_l_lesser : FuncData
  U_l_lesser : Fun K "_law_lesser" "_law_lesser" s_l_lesser f_l_lesser d_l_lesser
  g_l_lesser : mg "_law_lesser" = some (.ref f_l_lesser)
  f_l_divisor : Addr
  d_l_divisor : FuncData
  U_l_divisor : Fun K "_law_divisor" "_law_divisor" s_l_divisor f_l_divisor d_l_divisor
  g_l_divisor : mg "_law_divisor" = some (.ref f_l_divisor)
  f_l_is_fraction : Addr
  d_l_is_fraction : FuncData
  U_l_is_fraction : Fun K "_law_is_fraction" "_law_is_fraction" s_l_is_fraction f_l_is_fraction d_l_is_fraction
  g_l_is_fraction : mg "_law_is_fraction" = some (.ref f_l_is_fraction)
  f_l_text : Addr
  d_l_text : FuncData
  U_l_text : Fun K "_law_text" "_law_text" s_l_text f_l_text d_l_text
  g_l_text : mg "_law_text" = some (.ref f_l_text)
  f_l_value_right : Addr
  d_l_value_right : FuncData
  U_l_value_right : Fun K "_law_value_right" "_law_value_right" s_l_value_right f_l_value_right d_l_value_right
  g_l_value_right : mg "_law_value_right" = some (.ref f_l_value_right)
  f_l_order_right : Addr
  d_l_order_right : FuncData
  U_l_order_right : Fun K "_law_order_right" "_law_order_right" s_l_order_right f_l_order_right d_l_order_right
  g_l_order_right : mg "_law_order_right" = some (.ref f_l_order_right)
  f_l_right : Addr
  d_l_right : FuncData
  U_l_right : Fun K "_law_right" "_law_right" s_l_right f_l_right d_l_right
  g_l_right : mg "_law_right" = some (.ref f_l_right)
  f_law : Addr
  d_law : FuncData
  U_law : Fun K "law" "law" s_law f_law d_law
  g_law : mg "law" = some (.ref f_law)
  t_LETTERS : Tok
  g_LETTERS : mg "LETTERS" = some (.str "abcdefghijklmnopqrstuvwxyz" t_LETTERS)
  t_SIGNS : Tok
  g_SIGNS : mg "SIGNS" = some (.str "-./0123456789_abcdefghijklmnopqrstuvwxyz" t_SIGNS)
  t_LONGEST_NAME : Tok
  g_LONGEST_NAME : mg "LONGEST_NAME" = some (.int 12 t_LONGEST_NAME)
  t_LONGEST_PATTERN : Tok
  g_LONGEST_PATTERN : mg "LONGEST_PATTERN" = some (.int 12 t_LONGEST_PATTERN)
  i_gcd : mg "gcd" = some (.builtin "math.gcd")
  abs : mg "abs" = none
  all : mg "all" = none
  bool : mg "bool" = none
  divmod : mg "divmod" = none
  int : mg "int" = none
  isinstance : mg "isinstance" = none
  len : mg "len" = none
  max : mg "max" = none
  min : mg "min" = none
  range : mg "range" = none
  repr : mg "repr" = none
  str : mg "str" = none
  tuple : mg "tuple" = none
namespace D
variable {K : PySem.W.Frag} {mg : Str → Option Value} (T : D K mg)
theorem U_is_name : Fun K "is_name" "is_name" s_is_name T.f_is_name T.d_is_name := T.V_is_name.fun
theorem b_is_name : Binds K T.d_is_name ["value"] [] := T.U_is_name.binds fun _ _ _ _ _ _ us hl => match us, hl with | [_], _ => rfl
theorem U_is_path : Fun K "is_path" "is_path" s_is_path T.f_is_path T.d_is_path := T.V_is_path.fun
theorem b_is_path : Binds K T.d_is_path ["value"] [] := T.U_is_path.binds fun _ _ _ _ _ _ us hl => match us, hl with | [_], _ => rfl
theorem b_check_path : Binds K T.d_check_path ["given"] [] := T.U_check_path.binds fun _ _ _ _ _ _ us hl => match us, hl with | [_], _ => rfl
theorem b_signs_of_paths : Binds K T.d_signs_of_paths [] [] := T.U_signs_of_paths.binds fun _ _ _ _ _ _ us hl => match us, hl with | [], _ => rfl
theorem b_is_lesser : Binds K T.d_is_lesser ["path", "other"] [] := T.U_is_lesser.binds fun _ _ _ _ _ _ us hl => match us, hl with | [_, _], _ => rfl
theorem b_is_whole : Binds K T.d_is_whole ["value"] [] := T.U_is_whole.binds fun _ _ _ _ _ _ us hl => match us, hl with | [_], _ => rfl
theorem b_is_between : Binds K T.d_is_between ["value", "low", "high"] [] := T.U_is_between.binds fun _ _ _ _ _ _ us hl => match us, hl with | [_, _, _], _ => rfl
theorem b_is_fraction : Binds K T.d_is_fraction ["value"] [] := T.U_is_fraction.binds fun _ _ _ _ _ _ us hl => match us, hl with | [_], _ => rfl
theorem b_is_tuple : Binds K T.d_is_tuple ["value", "low", "high"] [] := T.U_is_tuple.binds fun _ _ _ _ _ _ us hl => match us, hl with | [_, _, _], _ => rfl
theorem b_put_at : Binds K T.d_put_at ["row", "place", "value"] [] := T.U_put_at.binds fun _ _ _ _ _ _ us hl => match us, hl with | [_, _, _], _ => rfl
theorem U_is_pattern : Fun K "is_pattern" "is_pattern" s_is_pattern T.f_is_pattern T.d_is_pattern := T.V_is_pattern.fun
theorem b_is_pattern : Binds K T.d_is_pattern ["value"] [] := T.U_is_pattern.binds fun _ _ _ _ _ _ us hl => match us, hl with | [_], _ => rfl
theorem b_l_well : Binds K T.d_l_well ["_law_script", "_law_turn"] [] := T.U_l_well.binds fun _ _ _ _ _ _ us hl => match us, hl with | [_, _], _ => rfl
theorem b_l_pick : Binds K T.d_l_pick ["_law_well_here", "_law_top"] [] := T.U_l_pick.binds fun _ _ _ _ _ _ us hl => match us, hl with | [_, _], _ => rfl
theorem b_l_one : Binds K T.d_l_one ["_law_well_here", "_law_some"] [] := T.U_l_one.binds fun _ _ _ _ _ _ us hl => match us, hl with | [_, _], _ => rfl
theorem b_l_signs : Binds K T.d_l_signs [] [] := T.U_l_signs.binds fun _ _ _ _ _ _ us hl => match us, hl with | [], _ => rfl
theorem b_l_is_whole : Binds K T.d_l_is_whole ["_law_value"] [] := T.U_l_is_whole.binds fun _ _ _ _ _ _ us hl => match us, hl with | [_], _ => rfl
theorem b_l_odd : Binds K T.d_l_odd ["_law_well_here"] [] := T.U_l_odd.binds fun _ _ _ _ _ _ us hl => match us, hl with | [_], _ => rfl
theorem b_l_is_name : Binds K T.d_l_is_name ["_law_value"] [] := T.U_l_is_name.binds fun _ _ _ _ _ _ us hl => match us, hl with | [_], _ => rfl
theorem b_l_is_path : Binds K T.d_l_is_path ["_law_value"] [] := T.U_l_is_path.binds fun _ _ _ _ _ _ us hl => match us, hl with | [_], _ => rfl
theorem b_l_is_pattern : Binds K T.d_l_is_pattern ["_law_value"] [] := T.U_l_is_pattern.binds fun _ _ _ _ _ _ us hl => match us, hl with | [_], _ => rfl
theorem b_l_lesser : Binds K T.d_l_lesser ["_law_one_here", "_law_other"] [] := T.U_l_lesser.binds fun _ _ _ _ _ _ us hl => match us, hl with | [_, _], _ => rfl
theorem b_l_divisor : Binds K T.d_l_divisor ["_law_one_here", "_law_other"] [] := T.U_l_divisor.binds fun _ _ _ _ _ _ us hl => match us, hl with | [_, _], _ => rfl
theorem b_l_is_fraction : Binds K T.d_l_is_fraction ["_law_value"] [] := T.U_l_is_fraction.binds fun _ _ _ _ _ _ us hl => match us, hl with | [_], _ => rfl
theorem b_l_text : Binds K T.d_l_text ["_law_well_here", "_law_signs_here"] [] := T.U_l_text.binds fun _ _ _ _ _ _ us hl => match us, hl with | [_, _], _ => rfl
theorem b_l_value_right : Binds K T.d_l_value_right ["_law_value"] [] := T.U_l_value_right.binds fun _ _ _ _ _ _ us hl => match us, hl with | [_], _ => rfl
theorem b_l_order_right : Binds K T.d_l_order_right ["_law_one_here", "_law_other"] [] := T.U_l_order_right.binds fun _ _ _ _ _ _ us hl => match us, hl with | [_, _], _ => rfl
theorem b_l_right : Binds K T.d_l_right ["_law_well_here"] [] := T.U_l_right.binds fun _ _ _ _ _ _ us hl => match us, hl with | [_], _ => rfl
theorem b_law : Binds K T.d_law ["_law_script"] [] := T.U_law.binds fun _ _ _ _ _ _ us hl => match us, hl with | [_], _ => rfl
end D
end KP

set_option Elab.async false
set_option maxRecDepth 100000
set_option maxHeartbeats 4000000
set_option linter.all false
/-! Ours: the law's draws: the well, a pick, one of some things, one sign of a text. -/
namespace KP
open PySem PySem.Spec PyProof.Rows L2 Gr GxR
/-- a well stands at p -/
def Well (H : Hp) (p : Addr) : Prop := ∃ d m c : Int, H p = some (.lst [.int d, .int m, .int c])
/-- all is as it was but what stands at p -/
def But (H H' : Hp) (p : Addr) : Prop := ∀ b o, H b = some o → b ≠ p → H' b = some o
theorem But.trans {H H1 H2 : Hp} {p : Addr} (a : But H H1 p) (b : But H1 H2 p) : But H H2 p := fun c o h n => b c o (a c o h n) n
theorem But.refl (H : Hp) (p : Addr) : But H H p := fun _ _ h _ => h

def spPick : Sp := fun vs H Q _ => ∃ (p : Addr) (t : Int), vs = [.ref p, .int t] ∧ Well H p ∧ 0 < t ∧ t < 1073741824 ∧
  ∀ (r : Int) (H' : Hp), 0 ≤ r → r < t → Well H' p → But H H' p → Q (.int r) H'

section
variable {P : Program} {w : World} {K : PySem.W.Frag} {mg : Str → Option Value} {base : Heap}
theorem scP : FnScope ["_law_well_here", "_law_top", "_law_digit"] ["_law_well_here", "_law_top"] (defScope s_l_pick) := ⟨rfl, rfl, rfl, by decide +kernel, rfl, by decide +kernel, by decide +kernel⟩
theorem ok_l_pick (T : D K mg) : FnOk P w K mg base CX0 1 T.f_l_pick T.d_l_pick ["_law_well_here", "_law_top"] spPick := by
  refine T.U_l_pick.ok scP (fun vs H Q E h => ?_) (fun cdv A outer s H vs Q E hr h => ?_)
  · obtain ⟨p, t, rfl, _⟩ := h
    rfl
  · obtain ⟨p, t, rfl, ⟨d, m, c, hp⟩, ht, ht2, k⟩ := h
    refine ⟨_, pss_cons (ps_if (pt_cmpR op_gt (pe_ix ix_list (pv 0) pe_int (fun _ _ => rfl)) pe_int (nomark _))
        (pss_cons (ps_asg (pe_callB call_divmod (by rfl) T.divmod boot_divmod (pa_cons (pe_ix ix_list (pv 0) pe_int (fun _ _ => rfl)) (pa_cons (pv 1) pa_nil)))
          (pg_tup rfl (pgs_cons (pg_sub (pv 0) pe_int set_list) (pgs_cons (pg_name (i := 2) scP.nd rfl (.inl rfl)) pgs_nil))))
        (pss_one (ps_ret (pv 2)))) pss_nil)
      (pss_cons (ps_asg (pe_op op_add (pe_ix ix_list (pv 0) pe_int (fun _ _ => rfl)) pe_int) (pg_sub (pv 0) pe_int set_list))
      (pss_cons (ps_asg (pe_op op_mod (pe_callTy call_int1 (by rfl) T.int PyProof.Rows.boot_int (pa_cons (pe_op op_add (pe_op op_mul (pe_ix ix_list (pv 0) pe_int (fun _ _ => rfl)) pe_int)
          (pe_op op_mul pe_int (pe_ix ix_list (pv 0) pe_int (fun _ _ => rfl)))) pa_nil)) pe_int) (pg_sub (pv 0) pe_int set_list))
      (pss_one (ps_ret (pe_op op_mod (pe_callTy call_int1 (by rfl) T.int PyProof.Rows.boot_int (pa_cons (pe_op op_fdiv (pe_ix ix_list (pv 0) pe_int (fun _ _ => rfl)) pe_int) pa_nil)) (pv 1)))))), ?_⟩
    have a0 : ∀ x y z : V, atI [x, y, z] (0 : Int) = some x := fun _ _ _ => rfl
    have a1 : ∀ x y z : V, atI [x, y, z] (1 : Int) = some y := fun _ _ _ => rfl
    have a2 : ∀ x y z : V, atI [x, y, z] (2 : Int) = some z := fun _ _ _ => rfl
    refine ⟨_, rfl, p, _, 0, _, rfl, rfl, SqL.of hp, a0 _ _ _, d, 0, rfl, rfl, _, rfl, ?_⟩
    refine ite2 (fun hd => ?_) (fun hd => ?_)
    · refine ⟨_, rfl, p, _, 0, _, rfl, rfl, SqL.of hp, a0 _ _ _, _, rfl, d, t, rfl, ⟨ht, ht2⟩, fun q hq => ?_⟩
      have nq : p ≠ q := ne_of_none hp hq
      refine ⟨q, _, rfl, .inl (.inl upd_same), rfl, _, _, rfl, ?_⟩
      refine ⟨_, rfl, p, _, 0, 0, rfl, rfl, (by rw [upd_ne nq]; exact hp), rfl, ?_⟩
      refine ⟨_, _, rfl, rfl, ?_⟩
      refine ⟨_, rfl, k (d % t) _ (Int.emod_nonneg _ (by omega)) (Int.emod_lt_of_pos _ ht) ⟨d / t, m, c, upd_same⟩ fun b o e n => ?_⟩
      rw [upd_ne n, upd_ne (ne_of_none e hq)]
      exact e
    · refine ⟨_, rfl, p, _, 2, _, rfl, rfl, SqL.of hp, a2 _ _ _, c, 1, rfl, rfl, _, rfl, p, _, 2, 2, rfl, rfl, hp, rfl, ?_⟩
      refine ⟨_, rfl, p, _, 1, _, rfl, rfl, SqL.of upd_same, a1 _ _ _, m, 48271, rfl, rfl, .inr (by decide), _, rfl, p, _, 2, _, rfl, rfl, SqL.of upd_same, a2 _ _ _, 1013, c + 1, rfl, rfl, .inl (by decide), _, _, rfl, rfl, .inl ⟨_, rfl, _, _, rfl, rfl, (by show (0 : Int) < 2038074743; decide), ?_⟩⟩
      refine ⟨_, rfl, p, _, 1, 1, rfl, rfl, upd_same, rfl, ?_⟩
      refine ⟨_, rfl, p, _, 1, _, rfl, rfl, SqL.of upd_same, a1 _ _ _, _, 23, rfl, rfl, ⟨by decide, by decide⟩, .inl ⟨_, rfl, _, rfl, _, t, rfl, rfl, ht, ?_⟩⟩
      refine k _ _ (Int.emod_nonneg _ (by omega)) (Int.emod_lt_of_pos _ ht) ⟨_, _, _, upd_same⟩ fun b o e n => ?_
      rw [upd_ne n, upd_ne n]
      exact e
end
def spOne : Sp := fun vs H Q _ => ∃ (p q : Addr) (xs : List V), vs = [.ref p, .ref q] ∧ Well H p ∧ H q = some (.lst xs) ∧ q ≠ p ∧ 0 < xs.length ∧ xs.length ≤ 1000 ∧
  ∀ (i : Nat) (v : V) (H' : Hp), xs[i]? = some v → Well H' p → But H H' p → Q v H'
def spWell (K : PySem.W.Frag) : Sp := fun vs H Q _ => ∃ (a : Addr) (ns : List Int) (t : Int), vs = [.ref a, .int t] ∧ SqL K H a (ns.map V.int) ∧ 0 ≤ t ∧ ns.length ≤ 1000 ∧
  ∀ (q : Addr) (H' : Hp), H q = none → Well H' q → Same H H' → Q (.ref q) H'

section
variable {P : Program} {w : World} {K : PySem.W.Frag} {mg : Str → Option Value} {base : Heap}
theorem scO : FnScope ["_law_well_here", "_law_some"] ["_law_well_here", "_law_some"] (defScope s_l_one) := ⟨rfl, rfl, rfl, by decide +kernel, rfl, by decide +kernel, by decide +kernel⟩
theorem ok_l_one (T : D K mg) :
    FnOk P w K mg base CX0 2 T.f_l_one T.d_l_one ["_law_well_here", "_law_some"] spOne := by
  refine T.U_l_one.ok scO (fun vs H Q E h => ?_) (fun cdv A outer s H vs Q E hr h => ?_)
  · obtain ⟨p, q, xs, rfl, _⟩ := h
    rfl
  · obtain ⟨p, q, xs, rfl, hp, hq, nq, h0, h1, k⟩ := h
    refine ⟨_, pss_one (ps_ret (pe_ix ix_list (pv 1) (pe_call (ok_l_pick T) hr rfl T.g_l_pick T.U_l_pick.kp T.b_l_pick .nil pass0 (pa_cons (pv 0) (pa_cons (pe_callB call_len_seq (by rfl) T.len PySem.boot_len (pa_cons (pv 1) pa_nil)) pa_nil))) (fun _ _ => rfl))), ?_⟩
    refine ⟨_, rfl, _, rfl, _, rfl, q, xs, rfl, .inl (SqL.of hq), p, (xs.length : Int), rfl, hp, by omega, by omega, fun r H' r0 r1 hw hb => ?_⟩
    have hlt : r.toNat < xs.length := by omega
    have e : atI xs r = some (xs[r.toNat]) := by
      have := atI_nat (xs := xs) (j := r.toNat) (List.getElem?_eq_getElem hlt)
      rw [Int.toNat_of_nonneg r0] at this
      exact this
    exact ⟨q, xs, r, _, rfl, rfl, SqL.of (hb _ _ hq nq), e, k r.toNat _ H' (List.getElem?_eq_getElem hlt) hw hb⟩

theorem scW : FnScope ["_law_script", "_law_turn", "_law_mixed", "_law_each", "_law_cell", "_law_digits"] ["_law_script", "_law_turn"] (defScope s_l_well) := ⟨rfl, rfl, rfl, by decide +kernel, rfl, by decide +kernel, by decide +kernel⟩
theorem ok_l_well (T : D K mg) : FnOk P w K mg base CX0 1 T.f_l_well T.d_l_well ["_law_script", "_law_turn"] (spWell K) := by
  refine T.U_l_well.ok scW (fun vs H Q E h => ?_) (fun cdv A outer s H vs Q E hr h => ?_)
  · obtain ⟨a, ns, t, rfl, _⟩ := h
    rfl
  · obtain ⟨a, ns, t, rfl, hS, h0, hl, k⟩ := h
    refine ⟨_, pss_cons (ps_set (i := 2) scW.nd rfl (.inl rfl) (pe_op op_add pe_int (pe_op op_mul pe_int (pv 1))))
      (pss_cons (ps_for PassesOwn.never rfl (pi_list (pe_slice sl_list (pv 0) po_none (po_some pe_int))) (pg_name (i := 3) scW.nd rfl (.inl rfl))
        (pss_one (ps_set (i := 2) scW.nd rfl (.inl rfl) (pe_op op_mod (pe_callTy call_int1 (by rfl) T.int PyProof.Rows.boot_int (pa_cons
          (pe_op op_add (pe_op op_add (pe_op op_mul (pv 2) pe_int) (pe_op op_mul (pe_op op_mod (pe_callTy call_int1 (by rfl) T.int PyProof.Rows.boot_int (pa_cons (pv 3) pa_nil)) pe_int) pe_int)) pe_int) pa_nil)) pe_int))))
      (pss_cons (ps_set (i := 4) scW.nd rfl (.inl rfl) (pe_ifExp (pt_cmpR op_lt (pv 1) (pe_callB call_len_seq (by rfl) T.len PySem.boot_len (pa_cons (pv 0) pa_nil)) (nomark _))
        (pe_callTy call_int1 (by rfl) T.int PyProof.Rows.boot_int (pa_cons (pe_ix ix_list (pv 0) (pv 1) (fun _ _ => rfl)) pa_nil)) (pv 2)))
      (pss_cons (ps_set (i := 5) scW.nd rfl (.inl rfl) (pe_ifExp (pt_cmpR op_ge (pe_callB call_abs (by rfl) T.abs PyProof.Rows.boot_abs (pa_cons (pv 4) pa_nil)) (pe_op op_pow pe_int pe_int) (nomark _))
        (pe_callB call_abs (by rfl) T.abs PyProof.Rows.boot_abs (pa_cons (pv 4) pa_nil)) pe_int))
      (pss_cons (ps_set (i := 2) scW.nd rfl (.inl rfl) (pe_op op_mod (pe_callTy call_int1 (by rfl) T.int PyProof.Rows.boot_int (pa_cons
          (pe_op op_add (pe_op op_add (pe_op op_mul (pv 2) pe_int) (pe_op op_mul (pe_op op_mod (pe_callTy call_int1 (by rfl) T.int PyProof.Rows.boot_int (pa_cons (pv 4) pa_nil)) pe_int) pe_int)) pe_int) pa_nil)) pe_int))
      (pss_one (ps_ret (pe_lst (pa_cons (pv 5) (pa_cons (pv 2) (pa_cons pe_int pa_nil)))))))))), ?_⟩
    refine ⟨_, rfl, 5003, t, rfl, rfl, .inl (by decide), _, _, rfl, rfl, ?_⟩
    refine ⟨_, rfl, 9, rfl, a, _, rfl, hS, fun p0 hp0 => ?_⟩
    have s0 : Same H (upd H p0 (.lst (cutV (ns.map V.int) none (some 9)))) := fun b o e => by
      rw [upd_ne (ne_of_none e hp0)]
      exact e
    have cutInt : ∀ (i : Nat) (y : V), (cutV (ns.map V.int) none (some 9))[i]? = some y → ∃ z, y = V.int z := fun i y hy => by
      have hm := List.mem_of_mem_drop (List.mem_of_mem_take (List.mem_of_getElem? hy))
      obtain ⟨z, _, e⟩ := List.mem_map.mp hm
      exact ⟨z, e.symm⟩
    refine ⟨p0, rfl, ⟨_, SqL.of upd_same⟩, for_list (K := K) (a := p0) (xs := cutV (ns.map V.int) none (some 9))
      (fun i σ H2 => ∃ (m : Int) (v : Option V), σ = [some (.ref a), some (.int t), some (.int m), v, none, none] ∧ H2 = upd H p0 (.lst (cutV (ns.map V.int) none (some 9))))
      ⟨_, none, rfl, rfl⟩ (fun i σ H2 _ ⟨_, _, _, e⟩ => by rw [e]; exact SqL.of upd_same) ?_ ?_⟩
    · rintro i y σ H2 hi ⟨m, v, rfl, rfl⟩
      obtain ⟨z, rfl⟩ := cutInt i y hi
      have hP : (0 : Int) < 2038074743 := by decide
      exact ⟨_, rfl, m, 30011, rfl, rfl, .inr (by decide), _, rfl, .inl ⟨z, rfl, z, 2038074743, rfl, rfl, hP, _, 7001, rfl, rfl, .inr (by decide), _, _, rfl, rfl, _, 13, rfl, rfl,
        .inl ⟨_, rfl, _, 2038074743, rfl, rfl, hP, _, _, rfl, rfl⟩⟩⟩
    · rintro σ H2 ⟨m, v, rfl, rfl⟩
      have hP : (0 : Int) < 2038074743 := by decide
      refine ⟨_, rfl, _, rfl, a, _, rfl, .inl (s0.seq hS), t, _, rfl, rfl, _, rfl, ?_⟩
      refine ite2 (fun hlt => ?_) (fun _ => ?_)
      · have hlt' : t < ((ns.map V.int).length : Int) := of_decide_eq_true hlt
        rw [List.length_map] at hlt'
        have hj : t.toNat < (ns.map V.int).length := by
          rw [List.length_map]
          omega
        have e : atI (ns.map V.int) t = some (.int (ns[t.toNat]'(by omega))) := by
          have q := atI_nat (xs := ns.map V.int) (j := t.toNat) (List.getElem?_eq_getElem hj)
          rw [Int.toNat_of_nonneg h0, List.getElem_map] at q
          exact q
        refine ⟨_, rfl, _, rfl, a, _, t, _, rfl, rfl, s0.seq hS, e, .inl ⟨_, rfl, ?_⟩⟩
        refine ⟨_, rfl, _, rfl, 10, 18, rfl, rfl, ⟨by decide, by decide, by decide⟩, _, _, rfl, rfl, _, rfl, ?_⟩
        refine ite2 (fun _ => ?_) (fun _ => ?_)
        · refine ⟨_, rfl, _, rfl, ?_⟩
          exact ⟨_, rfl, _, 16807, rfl, rfl, .inr (by decide), _, rfl, .inl ⟨_, rfl, _, 2038074743, rfl, rfl, hP, _, 39373, rfl, rfl, .inr (by decide), _, _, rfl, rfl, _, 29, rfl, rfl,
            .inl ⟨_, rfl, _, 2038074743, rfl, rfl, hP, _, rfl, _, rfl, by show 3 ≤ sizeLine; decide, fun p1 hp1 => k p1 _ (s0.free hp1) ⟨_, _, _, upd_same⟩ (s0.trans fun b o e => by rw [upd_ne (ne_of_none e hp1)]; exact e)⟩⟩⟩
        · exact ⟨_, rfl, _, 16807, rfl, rfl, .inr (by decide), _, rfl, .inl ⟨_, rfl, _, 2038074743, rfl, rfl, hP, _, 39373, rfl, rfl, .inr (by decide), _, _, rfl, rfl, _, 29, rfl, rfl,
            .inl ⟨_, rfl, _, 2038074743, rfl, rfl, hP, _, rfl, _, rfl, by show 3 ≤ sizeLine; decide, fun p1 hp1 => k p1 _ (s0.free hp1) ⟨_, _, _, upd_same⟩ (s0.trans fun b o e => by rw [upd_ne (ne_of_none e hp1)]; exact e)⟩⟩⟩
      · refine ⟨_, rfl, ?_⟩
        refine ⟨_, rfl, _, rfl, 10, 18, rfl, rfl, ⟨by decide, by decide, by decide⟩, _, _, rfl, rfl, _, rfl, ?_⟩
        refine ite2 (fun _ => ?_) (fun _ => ?_)
        · refine ⟨_, rfl, _, rfl, ?_⟩
          exact ⟨_, rfl, _, 16807, rfl, rfl, .inr (by decide), _, rfl, .inl ⟨_, rfl, _, 2038074743, rfl, rfl, hP, _, 39373, rfl, rfl, .inr (by decide), _, _, rfl, rfl, _, 29, rfl, rfl,
            .inl ⟨_, rfl, _, 2038074743, rfl, rfl, hP, _, rfl, _, rfl, by show 3 ≤ sizeLine; decide, fun p1 hp1 => k p1 _ (s0.free hp1) ⟨_, _, _, upd_same⟩ (s0.trans fun b o e => by rw [upd_ne (ne_of_none e hp1)]; exact e)⟩⟩⟩
        · exact ⟨_, rfl, _, 16807, rfl, rfl, .inr (by decide), _, rfl, .inl ⟨_, rfl, _, 2038074743, rfl, rfl, hP, _, 39373, rfl, rfl, .inr (by decide), _, _, rfl, rfl, _, 29, rfl, rfl,
            .inl ⟨_, rfl, _, 2038074743, rfl, rfl, hP, _, rfl, _, rfl, by show 3 ≤ sizeLine; decide, fun p1 hp1 => k p1 _ (s0.free hp1) ⟨_, _, _, upd_same⟩ (s0.trans fun b o e => by rw [upd_ne (ne_of_none e hp1)]; exact e)⟩⟩⟩
end

/-- one sign of a text -/
def spOneS : Sp := fun vs H Q _ => ∃ (p : Addr) (z : Str), vs = [.ref p, .str z] ∧ Well H p ∧ 0 < z.length ∧ z.length ≤ 1000 ∧
  ∀ (c : Nat) (H' : Hp), c ∈ z.cps.toList → Well H' p → But H H' p → Q (.str ⟨#[c]⟩) H'
section
variable {P : Program} {w : World} {K : PySem.W.Frag} {mg : Str → Option Value} {base : Heap}
theorem ok_l_oneS (T : D K mg) : FnOk P w K mg base CX0 2 T.f_l_one T.d_l_one ["_law_well_here", "_law_some"] spOneS := by
  refine T.U_l_one.ok scO (fun vs H Q E h => ?_) (fun cdv A outer s H vs Q E hr h => ?_)
  · obtain ⟨p, z, rfl, _⟩ := h
    rfl
  · obtain ⟨p, z, rfl, hp, h0, h1, k⟩ := h
    refine ⟨_, pss_one (ps_ret (pe_ix ix_str (pv 1) (pe_call (ok_l_pick T) hr rfl T.g_l_pick T.U_l_pick.kp T.b_l_pick .nil pass0 (pa_cons (pv 0) (pa_cons (pe_callB call_len_str (by rfl) T.len PySem.boot_len (pa_cons (pv 1) pa_nil)) pa_nil))) (fun _ _ => rfl))), ?_⟩
    refine ⟨_, rfl, _, rfl, _, rfl, z, rfl, Nat.le_trans h1 (by decide), ?_⟩
    refine ⟨p, _, rfl, hp, by omega, by omega, fun r H' r0 r1 hw hb => ?_⟩
    have hlt : r.toNat < z.cps.toList.length := by
      have e : z.cps.toList.length = z.length := rfl
      omega
    have e : atI z.cps.toList r = some (z.cps.toList[r.toNat]) := by
      have := atI_nat (xs := z.cps.toList) (j := r.toNat) (List.getElem?_eq_getElem hlt)
      rw [Int.toNat_of_nonneg r0] at this
      exact this
    exact ⟨z, r, _, rfl, rfl, Nat.le_trans h1 (by decide), e, k _ H' (List.getElem_mem hlt) hw hb⟩
end
end KP

set_option Elab.async false
set_option maxRecDepth 100000
set_option maxHeartbeats 4000000
set_option linter.all false
/-! Ours: values of any kind; whole numbers, rows, fractions. -/
namespace KP
open PySem PySem.Spec PyProof.Rows L2 Gr GxR
mutual
/-- a value that is data -/
inductive Od (H : Hp) : V → PyData → Prop
  | non : Od H .non .none
  | bl (b : Bool) : Od H (.bl b) (.bool b)
  | int (i : Int) : Od H (.int i) (.int i)
  | str (x : Str) : Od H (.str x) (.str x)
  | lst {a : Addr} {xs : List V} {ds : List PyData} : H a = some (.lst xs) → OdAll H xs ds → Od H (.ref a) (.list ds)
  | tup {a : Addr} {xs : List V} {ds : List PyData} : H a = some (.tup xs) → OdAll H xs ds → Od H (.ref a) (.tuple ds)
  | dic {a : Addr} {kvs : List (Key × V)} {ds : List (PyData × PyData)} : H a = some (.dK kvs) → OdAll H (kvs.map fun p => kV p.1) (ds.map (·.1)) → OdAll H (kvs.map (·.2)) (ds.map (·.2)) → Od H (.ref a) (.dict ds)
inductive OdAll (H : Hp) : List V → List PyData → Prop
  | nil : OdAll H [] []
  | cons {v : V} {vs : List V} {d : PyData} {ds : List PyData} : Od H v d → OdAll H vs ds → OdAll H (v :: vs) (d :: ds)
end
mutual
theorem Od.same {H H' : Hp} (s : Same H H') : ∀ {v : V} {d : PyData}, Od H v d → Od H' v d
  | _, _, .non => .non
  | _, _, .bl b => .bl b
  | _, _, .int i => .int i
  | _, _, .str x => .str x
  | _, _, .lst e a => .lst (s _ _ e) (OdAll.same s a)
  | _, _, .tup e a => .tup (s _ _ e) (OdAll.same s a)
  | _, _, .dic e a b => .dic (s _ _ e) (OdAll.same s a) (OdAll.same s b)
theorem OdAll.same {H H' : Hp} (s : Same H H') : ∀ {vs : List V} {ds : List PyData}, OdAll H vs ds → OdAll H' vs ds
  | _, _, .nil => .nil
  | _, _, .cons a b => .cons (Od.same s a) (OdAll.same s b)
end
mutual
theorem Od.dq {K : PySem.W.Frag} {H : Hp} : ∀ {v : V} {d : PyData}, Od H v d → Dq K H v d
  | _, _, .non => .non
  | _, _, .bl b => .bl b
  | _, _, .int i => .int i
  | _, _, .str x => .str x
  | _, _, .lst e a => .lst (SqL.of e) (OdAll.dq a)
  | _, _, .tup e a => .tup (SqT.of e) (OdAll.dq a)
  | _, _, .dic e a b => .dic e (OdAll.dq a) (OdAll.dq b)
theorem OdAll.dq {K : PySem.W.Frag} {H : Hp} : ∀ {vs : List V} {ds : List PyData}, OdAll H vs ds → DqAll K H vs ds
  | _, _, .nil => .nil
  | _, _, .cons a b => .cons (Od.dq a) (OdAll.dq b)
end
theorem OdAll.len {H : Hp} : ∀ {vs : List V} {ds : List PyData}, OdAll H vs ds → vs.length = ds.length
  | _, _, .nil => rfl
  | _, _, .cons _ b => congrArg (· + 1) (OdAll.len b)
def tyD : PyData → String
  | .none => "NoneType"
  | .bool _ => "bool"
  | .int _ => "int"
  | .str _ => "str"
  | .list _ => "list"
  | .tuple _ => "tuple"
  | .dict _ => "dict"
theorem Od.ty {K : PySem.W.Frag} {H : Hp} {v : V} {d : PyData} (h : Od H v d) : TyX K H v (.type (tyD d)) := by
  cases h with
  | non => exact .base .non
  | bl b => exact .base (.bl b)
  | int i => exact .base (.int i)
  | str x => exact .base (.str x)
  | lst e _ => exact .base (.lst e)
  | tup e _ => exact .base (.tup e)
  | dic e _ _ => exact .base (.dK e)
def isIntD : PyData → Bool
  | .bool _ => true
  | .int _ => true
  | _ => false
def isBoolD : PyData → Bool
  | .bool _ => true
  | _ => false
def isStrD : PyData → Bool
  | .str _ => true
  | _ => false
def isTupD : PyData → Bool
  | .tuple _ => true
  | _ => false
theorem kInt {K : PySem.W.Frag} (d : PyData) : PySem.W.kitOne K (.type (tyD d)) (.type "int") = some (isIntD d) := by
  cases d <;> (refine kit_ty ?_; simp only [tyD, isIntD]; decide +kernel)
theorem kBool {K : PySem.W.Frag} (d : PyData) : PySem.W.kitOne K (.type (tyD d)) (.type "bool") = some (isBoolD d) := by
  cases d <;> (refine kit_ty ?_; simp only [tyD, isBoolD]; decide +kernel)
theorem kStr {K : PySem.W.Frag} (d : PyData) : PySem.W.kitOne K (.type (tyD d)) (.type "str") = some (isStrD d) := by
  cases d <;> (refine kit_ty ?_; simp only [tyD, isStrD]; decide +kernel)
theorem kTup {K : PySem.W.Frag} (d : PyData) : PySem.W.kitOne K (.type (tyD d)) (.type "tuple") = some (isTupD d) := by
  cases d <;> (refine kit_ty ?_; simp only [tyD, isTupD]; decide +kernel)
def wholeD : PyData → Bool
  | .int _ => true
  | _ => false
def spWhole : Sp := fun vs H Q _ => ∃ v d, vs = [v] ∧ Od H v d ∧ Q (.bl (wholeD d)) H
def betwD (d : PyData) (lo hi : Int) : Bool := match d with
  | .int n => decide (lo ≤ n) && decide (n ≤ hi)
  | _ => false
def spBetw : Sp := fun vs H Q _ => ∃ v d lo hi, vs = [v, .int lo, .int hi] ∧ Od H v d ∧ Q (.bl (betwD d lo hi)) H
def rowD (d : PyData) (lo hi : Int) : Bool := match d with
  | .tuple ds => decide (lo ≤ (ds.length : Nat)) && decide (((ds.length : Nat) : Int) ≤ hi)
  | _ => false
def spRow : Sp := fun vs H Q _ => ∃ v d lo hi, vs = [v, .int lo, .int hi] ∧ Od H v d ∧ Q (.bl (rowD d lo hi)) H
section
variable {P : Program} {w : World} {K : PySem.W.Frag} {mg : Str → Option Value} {base : Heap}
theorem sc_whole : FnScope ["value"] ["value"] (defScope s_is_whole) := ⟨rfl, rfl, rfl, by decide +kernel, rfl, by decide +kernel, by decide +kernel⟩
theorem ok_whole (T : D K mg) : FnOk P w K mg base CX0 1 T.f_is_whole T.d_is_whole ["value"] spWhole := by
  refine T.U_is_whole.ok sc_whole (fun vs H Q E h => ?_) (fun cdv A outer s H vs Q E hr h => ?_)
  · obtain ⟨v, d, rfl, _⟩ := h
    rfl
  · obtain ⟨v, d, rfl, hd, k⟩ := h
    have nd := sc_whole.nd
    refine ⟨_, pss_one (ps_ret (pe_and (pe_callB call_isi (by rfl) T.isinstance (by decide +kernel) (pa_cons (pv 0) (pa_cons (pe_bltn (v := .ty "int") (by rfl) T.int (by decide +kernel) rfl) pa_nil))) (pe_one (pe_not (pe_callB call_isi (by rfl) T.isinstance (by decide +kernel) (pa_cons (pv 0) (pa_cons (pe_bltn (v := .ty "bool") (by rfl) T.bool (by decide +kernel) rfl) pa_nil))))))), ?_⟩
    refine and_pure (isIntD d) (!isBoolD d) (fun Q' q' => ⟨_, rfl, _, _, _, _, _, rfl, .ty _, hd.ty, kInt d, q'⟩) (fun _ Q' q' => ⟨_, rfl, _, _, _, _, _, rfl, .ty _, hd.ty, kBool d, ?_⟩) ?_
    · exact ⟨_, rfl, q'⟩
    · have e : (isIntD d && !isBoolD d) = wholeD d := by cases d <;> rfl
      rw [e]
      exact k
theorem sc_lwhole : FnScope ["_law_value"] ["_law_value"] (defScope s_l_is_whole) := ⟨rfl, rfl, rfl, by decide +kernel, rfl, by decide +kernel, by decide +kernel⟩
theorem ok_lwhole (T : D K mg) : FnOk P w K mg base CX0 1 T.f_l_is_whole T.d_l_is_whole ["_law_value"] spWhole := by
  refine T.U_l_is_whole.ok sc_lwhole (fun vs H Q E h => ?_) (fun cdv A outer s H vs Q E hr h => ?_)
  · obtain ⟨v, d, rfl, _⟩ := h
    rfl
  · obtain ⟨v, d, rfl, hd, k⟩ := h
    refine ⟨_, pss_one (ps_ret (pe_and (pe_callB call_isi (by rfl) T.isinstance (by decide +kernel) (pa_cons (pv 0) (pa_cons (pe_bltn (v := .ty "int") (by rfl) T.int (by decide +kernel) rfl) pa_nil))) (pe_one (pe_not (pe_callB call_isi (by rfl) T.isinstance (by decide +kernel) (pa_cons (pv 0) (pa_cons (pe_bltn (v := .ty "bool") (by rfl) T.bool (by decide +kernel) rfl) pa_nil))))))), ?_⟩
    refine and_pure (isIntD d) (!isBoolD d) (fun Q' q' => ⟨_, rfl, _, _, _, _, _, rfl, .ty _, hd.ty, kInt d, q'⟩) (fun _ Q' q' => ⟨_, rfl, _, _, _, _, _, rfl, .ty _, hd.ty, kBool d, ?_⟩) ?_
    · exact ⟨_, rfl, q'⟩
    · have e : (isIntD d && !isBoolD d) = wholeD d := by cases d <;> rfl
      rw [e]
      exact k
theorem sc_betw : FnScope ["value", "low", "high"] ["value", "low", "high"] (defScope s_is_between) := ⟨rfl, rfl, rfl, by decide +kernel, rfl, by decide +kernel, by decide +kernel⟩
theorem ok_betw (T : D K mg) : FnOk P w K mg base CX0 2 T.f_is_between T.d_is_between ["value", "low", "high"] spBetw := by
  refine T.U_is_between.ok sc_betw (fun vs H Q E h => ?_) (fun cdv A outer s H vs Q E hr h => ?_)
  · obtain ⟨v, d, lo, hi, rfl, _⟩ := h
    rfl
  · obtain ⟨v, d, lo, hi, rfl, hd, k⟩ := h
    refine ⟨_, pss_one (ps_ret (pe_and (pe_call (ok_whole T) hr rfl T.g_is_whole T.U_is_whole.kp T.b_is_whole .nil pass0 (pa_cons (pv 0) pa_nil)) (pe_one (pe_chain op_le op_le (pv 1) (pv 0) (pv 2))))), ?_⟩
    refine and_pure (wholeD d) (betwD d lo hi) (fun Q' q' => ⟨_, rfl, _, _, rfl, hd, q'⟩) (fun hw Q' q' => ?_) ?_
    · cases hd with
      | int n =>
        refine ⟨_, rfl, _, rfl, _, _, rfl, rfl, _, rfl, ite2 (fun h1 => ⟨_, rfl, _, _, rfl, rfl, ?_⟩) (fun h1 => ?_)⟩
        · have e : betwD (.int n) lo hi = decide (n ≤ hi) := by
            show (decide (lo ≤ n) && decide (n ≤ hi)) = _
            rw [h1, Bool.true_and]
          rw [e] at q'
          exact q'
        · have e : betwD (.int n) lo hi = false := by
            show (decide (lo ≤ n) && decide (n ≤ hi)) = _
            rw [Bool.eq_false_iff.mpr h1, Bool.false_and]
          rw [e] at q'
          exact q'
      | _ => cases hw
    · have e : (wholeD d && betwD d lo hi) = betwD d lo hi := by cases d <;> rfl
      rw [e]
      exact k
theorem sc_row : FnScope ["value", "low", "high"] ["value", "low", "high"] (defScope s_is_tuple) := ⟨rfl, rfl, rfl, by decide +kernel, rfl, by decide +kernel, by decide +kernel⟩
theorem ok_row (T : D K mg) : FnOk P w K mg base CX0 1 T.f_is_tuple T.d_is_tuple ["value", "low", "high"] spRow := by
  refine T.U_is_tuple.ok sc_row (fun vs H Q E h => ?_) (fun cdv A outer s H vs Q E hr h => ?_)
  · obtain ⟨v, d, lo, hi, rfl, _⟩ := h
    rfl
  · obtain ⟨v, d, lo, hi, rfl, hd, k⟩ := h
    refine ⟨_, pss_one (ps_ret (pe_and (pe_callB call_isi (by rfl) T.isinstance (by decide +kernel) (pa_cons (pv 0) (pa_cons (pe_bltn (v := .ty "tuple") (by rfl) T.tuple (by decide +kernel) rfl) pa_nil))) (pe_one (pe_chain op_le op_le (pv 1) (pe_callB call_len_seq (by rfl) T.len PySem.boot_len (pa_cons (pv 0) pa_nil)) (pv 2))))), ?_⟩
    refine and_pure (isTupD d) (rowD d lo hi) (fun Q' q' => ⟨_, rfl, _, _, _, _, _, rfl, .ty _, hd.ty, kTup d, q'⟩) (fun hw Q' q' => ?_) ?_
    · cases hd with
      | tup e a =>
        rename_i ad xs ds
        have el := a.len
        refine ⟨_, rfl, _, rfl, ad, _, rfl, .inr (SqT.of e), _, _, rfl, rfl, _, rfl, ite2 (fun h1 => ⟨_, rfl, _, _, rfl, rfl, ?_⟩) (fun h1 => ?_)⟩
        · have e : rowD (.tuple ds) lo hi = decide (((xs.length : Nat) : Int) ≤ hi) := by
            show (decide (lo ≤ (ds.length : Nat)) && decide (((ds.length : Nat) : Int) ≤ hi)) = _
            rw [← el, h1, Bool.true_and]
          rw [e] at q'
          exact q'
        · have e : rowD (.tuple ds) lo hi = false := by
            show (decide (lo ≤ (ds.length : Nat)) && decide (((ds.length : Nat) : Int) ≤ hi)) = _
            rw [← el, Bool.eq_false_iff.mpr h1, Bool.false_and]
          rw [e] at q'
          exact q'
      | _ => cases hw
    · have e : (isTupD d && rowD d lo hi) = rowD d lo hi := by cases d <;> rfl
      rw [e]
      exact k
end
end KP

set_option Elab.async false
set_option maxRecDepth 100000
set_option maxHeartbeats 4000000
set_option linter.all false
/-! Ours: fractions. -/
namespace KP
open PySem PySem.Spec PyProof.Rows L2 Gr GxR
def spDiv : Sp := fun vs H Q _ => ∃ a b : Int, vs = [.int a, .int b] ∧ 0 < b ∧ b ≤ 300 ∧ Q (.int ((Nat.gcd a.natAbs b.natAbs : Nat) : Int)) H
section
variable {P : Program} {w : World} {K : PySem.W.Frag} {mg : Str → Option Value} {base : Heap}
theorem sc_div : FnScope ["_law_one_here", "_law_other", "_law_low", "_law_high", "_law_turn"] ["_law_one_here", "_law_other"] (defScope s_l_divisor) := ⟨rfl, rfl, rfl, by decide +kernel, rfl, by decide +kernel, by decide +kernel⟩
theorem ok_div (T : D K mg) : FnOk P w K mg base CX0 1 T.f_l_divisor T.d_l_divisor ["_law_one_here", "_law_other"] spDiv := by
  refine T.U_l_divisor.ok sc_div (fun vs H Q E h => ?_) (fun cdv A outer s H vs Q E hr h => ?_)
  · obtain ⟨a, b, rfl, _⟩ := h
    rfl
  · obtain ⟨a, b, rfl, hb0, hb1, k⟩ := h
    have nd := sc_div.nd
    refine ⟨_, pss_cons (ps_par (i := 2) (j := 3) (by rfl) nd rfl rfl (by decide) rfl rfl (pa_cons (pe_callB call_abs (by rfl) T.abs PyProof.Rows.boot_abs (pa_cons (pv 0) pa_nil)) (pa_cons (pv 1) pa_nil)) (by rfl))
      (pss_cons (ps_for PassesOwn.never rfl (pi_range1 rfl T.range (pa_cons pe_int pa_nil)) (pg_name (i := 4) nd rfl (.inl rfl))
        (pss_cons (ps_if (pt_cmpR op_eq (pv 2) pe_int (nomark _))
          (pss_one (ps_break))
          (pss_nil))
        (pss_one (ps_par (i := 2) (j := 3) (by rfl) nd rfl rfl (by decide) rfl rfl (pa_cons (pe_op op_mod (pe_callTy call_int1 (by rfl) T.int PyProof.Rows.boot_int (pa_cons (pv 3) pa_nil)) (pv 2)) (pa_cons (pv 2) pa_nil)) (by rfl)))))
      (pss_one (ps_ret (pv 3)))), ?_⟩
    have ea : (if a < 0 then -a else a) = ((a.natAbs : Nat) : Int) := by split <;> omega
    obtain ⟨m, rfl⟩ := Int.eq_ofNat_of_zero_le (Int.le_of_lt hb0)
    refine ⟨_, rfl, _, rfl, _, rfl, _, _, rfl, ?_⟩
    rw [ea]
    have eb : ((m : Nat) : Int).natAbs = m := rfl
    rw [eb] at k
    refine ⟨_, rfl, by decide, by decide, for_range (lo := 0) (n := _) (fun i σ H2 => H2 = H ∧ ∃ (x y : Nat) (v4 : Option V), σ = [some (.int a), some (.int (m : Nat)), some (.int (x : Nat)), some (.int (y : Nat)), v4] ∧ Nat.gcd x y = Nat.gcd a.natAbs m ∧ (0 < i → x + i ≤ 301) ∧ (i = 0 → y ≤ 300))
      ⟨rfl, a.natAbs, m, none, rfl, rfl, fun h => absurd h (by decide), fun _ => by omega⟩ ?_ ?_⟩
    · rintro i σ H2 hi ⟨rfl, x, y, v4, rfl, hg, h1, h0⟩
      refine ⟨_, rfl, rfl, _, rfl, ite2 (fun h => ?_) (fun h => ?_)⟩
      · have hx : x = 0 := by
          have := V.int.inj (of_decide_eq_true h)
          omega
        subst hx
        refine ⟨_, rfl, ?_⟩
        rw [Nat.gcd_zero_left] at hg
        rw [hg]
        exact k
      · have hx : 0 < x := Nat.pos_of_ne_zero fun e => h (decide_eq_true (by rw [e]; rfl))
        refine ⟨_, rfl, .inl ⟨_, rfl, _, rfl, _, _, rfl, rfl, by omega, _, rfl, _, _, rfl, rfl, y % x, x, _, rfl, ?_, fun _ => ?_, fun h => absurd h (Nat.succ_ne_zero _)⟩⟩
        · rw [← hg]
          exact (Nat.gcd_rec x y).symm
        · have hm := Nat.mod_lt y hx
          rcases Nat.eq_zero_or_pos i with e | e
          · have := h0 e
            have := Nat.mod_le y x
            omega
          · have := h1 e
            omega
    · rintro σ H2 ⟨rfl, x, y, v4, rfl, hg, h1, h0⟩
      exact absurd (h1 (by decide)) (by show ¬ x + 400 ≤ 301; omega)
/-- a fraction's data: two whole numbers, the second one not too great -/
def fracD : PyData → Bool
  | .tuple [.int a, .int b] => decide (0 < b) && (Nat.gcd a.natAbs b.natAbs == 1)
  | _ => false
/-- the second number is small, where the law looks for a divisor -/
def SmallB : PyData → Prop
  | .tuple [.int _, .int b] => b ≤ 300
  | _ => True
def spFrac : Sp := fun vs H Q _ => ∃ v d, vs = [v] ∧ Od H v d ∧ SmallB d ∧ Q (.bl (fracD d)) H
theorem row2 {d : PyData} : rowD d 2 2 = true ↔ ∃ x y, d = .tuple [x, y] := by
  cases d with
  | tuple ds =>
    show (decide ((2 : Int) ≤ (ds.length : Nat)) && decide (((ds.length : Nat) : Int) ≤ 2)) = true ↔ _
    rw [Bool.and_eq_true, decide_eq_true_eq, decide_eq_true_eq]
    constructor
    · intro ⟨h1, h2⟩
      match ds, h1, h2 with
      | [x, y], _, _ => exact ⟨x, y, rfl⟩
      | [], h1, _ => exact absurd h1 (by decide)
      | [_], h1, _ => exact absurd h1 (by simp)
      | _ :: _ :: _ :: _, _, h2 => exact absurd h2 (by simp only [List.length_cons]; omega)
    · rintro ⟨x, y, e⟩
      cases e
      exact ⟨(by show (2 : Int) ≤ 2; decide), (by show (2 : Int) ≤ 2; decide)⟩
  | _ =>
    constructor
    · intro h
      cases h
    · rintro ⟨_, _, e⟩
      cases e
theorem od_int {H : Hp} {v : V} {n : Int} (h : Od H v (.int n)) : v = .int n := by
  cases h
  rfl
theorem whole_or (d : PyData) : (∃ n, d = .int n) ∨ wholeD d = false := by
  cases d with
  | int n => exact .inl ⟨n, rfl⟩
  | _ => exact .inr rfl
theorem frac_no1 {x y : PyData} (h : wholeD x = false) : fracD (.tuple [x, y]) = false := by
  cases x with
  | int n => cases h
  | _ => cases y <;> rfl
theorem frac_no2 {x y : PyData} (h : wholeD y = false) : fracD (.tuple [x, y]) = false := by
  cases y with
  | int n => cases h
  | _ => cases x <;> rfl
theorem frac_row {d : PyData} (h : rowD d 2 2 = false) : fracD d = false := by
  cases hf : fracD d with
  | false => rfl
  | true =>
    exfalso
    unfold fracD at hf
    split at hf
    · cases h
    · cases hf
theorem od_two {H : Hp} {v : V} {x y : PyData} (h : Od H v (.tuple [x, y])) : ∃ (a : Addr) (u w : V), v = .ref a ∧ H a = some (.tup [u, w]) ∧ Od H u x ∧ Od H w y := by
  cases h with
  | tup e a =>
    cases a with
    | cons h1 a =>
      cases a with
      | cons h2 a =>
        cases a
        exact ⟨_, _, _, rfl, e, h1, h2⟩
theorem sc_frac : FnScope ["value", "top", "bottom"] ["value"] (defScope s_is_fraction) := ⟨rfl, rfl, rfl, by decide +kernel, rfl, by decide +kernel, by decide +kernel⟩
theorem ok_frac (T : D K mg) : FnOk P w K mg base CX0 2 T.f_is_fraction T.d_is_fraction ["value"] spFrac := by
  refine T.U_is_fraction.ok sc_frac (fun vs H Q E h => ?_) (fun cdv A outer s H vs Q E hr h => ?_)
  · obtain ⟨v, d, rfl, _⟩ := h
    rfl
  · obtain ⟨v, d, rfl, hd, hs, k⟩ := h
    have nd := sc_frac.nd
    refine ⟨_, pss_cons (ps_if (pt_not (pt_val (pe_call (ok_row T) hr rfl T.g_is_tuple T.U_is_tuple.kp T.b_is_tuple .nil pass0 (pa_cons (pv 0) (pa_cons pe_int (pa_cons pe_int pa_nil))))))
        (pss_one (ps_ret pe_bl))
        (pss_nil))
      (pss_cons (ps_asg (pv 0) (pg_tup rfl (pgs_cons (pg_name (i := 1) nd rfl (.inl rfl)) (pgs_cons (pg_name (i := 2) nd rfl (.inl rfl)) pgs_nil))))
      (pss_one (ps_ret (pe_and (pe_call (ok_whole T) hr rfl T.g_is_whole T.U_is_whole.kp T.b_is_whole .nil pass0 (pa_cons (pv 1) pa_nil)) (pe_and (pe_call (ok_whole T) hr rfl T.g_is_whole T.U_is_whole.kp T.b_is_whole .nil pass0 (pa_cons (pv 2) pa_nil)) (pe_and (pe_cmpR op_gt (pv 2) pe_int (nomark _)) (pe_one (pe_cmpR op_eq (pe_callBfun cr_gcd rfl T.i_gcd (pa_cons (pv 1) (pa_cons (pv 2) pa_nil))) pe_int (nomark _))))))))), ?_⟩
    refine ⟨_, rfl, v, d, 2, 2, rfl, hd, _, rfl, ?_⟩
    cases hrow : rowD d 2 2 with
    | false =>
      refine iteT ?_
      rw [frac_row hrow] at k
      exact k
    | true =>
      obtain ⟨x, y, rfl⟩ := row2.mp hrow
      obtain ⟨a, u, u2, rfl, e, h1, h2⟩ := od_two hd
      refine iteF ⟨_, rfl, a, _, rfl, .inl (.inl e), rfl, _, _, rfl, _, _, rfl, rfl, ?_⟩
      dsimp only
      rcases whole_or x with ⟨n, rfl⟩ | hx
      · rcases whole_or y with ⟨m, rfl⟩ | hy
        · cases od_int h1
          cases od_int h2
          refine and_pure true (decide (0 < m) && (Nat.gcd n.natAbs m.natAbs == 1)) (fun Q' q' => ⟨_, rfl, _, _, rfl, h1, q'⟩) (fun _ Q' q' => and_pure true (decide (0 < m) && (Nat.gcd n.natAbs m.natAbs == 1)) (fun Q' q' => ⟨_, rfl, _, _, rfl, h2, q'⟩)
            (fun _ Q' q' => and_pure (decide (0 < m)) (Nat.gcd n.natAbs m.natAbs == 1) (fun Q' q' => ⟨_, rfl, _, _, rfl, rfl, q'⟩) (fun _ Q' q' => ⟨_, rfl, _, rfl, n, m, rfl, rfl, ?_⟩) q') q') k
          have eg : decide (V.int ((Nat.gcd n.natAbs m.natAbs : Nat) : Int) = V.int 1) = (Nat.gcd n.natAbs m.natAbs == 1) := by
            rw [Bool.eq_iff_iff, decide_eq_true_eq, beq_iff_eq]
            constructor
            · intro q
              have := V.int.inj q
              omega
            · intro q
              rw [q]
              rfl
          rw [← eg] at q'
          exact q'
        · rw [frac_no2 hy] at k
          refine and_pure true false (fun Q' q' => ⟨_, rfl, _, _, rfl, h1, q'⟩) (fun _ Q' q' => and_pure false false (fun Q' q' => ⟨_, rfl, _, _, rfl, h2, by rw [hy]; exact q'⟩) (fun h => nomatch h) q') ?_
          rw [Bool.and_false]
          exact k
      · rw [frac_no1 hx] at k
        exact and_pure false false (fun Q' q' => ⟨_, rfl, _, _, rfl, h1, by rw [hx]; exact q'⟩) (fun h => nomatch h) k
end
end KP

set_option Elab.async false
set_option maxRecDepth 100000
set_option maxHeartbeats 4000000
set_option linter.all false
/-! Ours: names, paths and patterns of values of any kind. -/
namespace KP
open PySem PySem.Spec PyProof.Rows L2 Gr GxR
def SGs : Str := "-./0123456789_abcdefghijklmnopqrstuvwxyz"
def SG : List Nat := SGs.cps.toList
def isPath (z : Str) : Bool := z.cps.toList[0]? == some 47 && z.cps.toList.all (fun c => decide (c ∈ SG))
def innerOf (z : Str) : List Nat := if z.cps.toList.getLast? == some 36 then z.cps.toList.dropLast else z.cps.toList
def isPat (z : Str) : Bool := (decide (1 ≤ z.length) && decide (z.length ≤ 12)) && ((innerOf z)[0]? == some 47 && (innerOf z).all (fun c => c == 42 || decide (c ∈ SG)))
theorem gens_mk {env : Env} {scope : Scope} {x : Str} (h1 : scope.kind = .function) (h2 : scope.isCoroutine = false) (h3 : ∀ y ∈ scope.names, y.2 ≠ .cell) (h4 : scope.names.lookup (".0" : Str) = some NameKind.local) (h5 : scope.names.lookup x = some .local)
    (h6 : ∀ y ∈ scope.names, y.2 ≠ .free) : GenS env scope x := ⟨h1, h2, h3, h4, h5, fun y hy e => absurd e (h6 y hy)⟩
theorem Tabbed.refl {P : Addr} {H : Hp} (h : TabG H P) : Tabbed P H H := ⟨h, fun _ _ => rfl⟩
theorem Tabbed.trans {P : Addr} {H H1 H2 : Hp} (a : Tabbed P H H1) (b : Tabbed P H1 H2) : Tabbed P H H2 := ⟨b.1, fun x n => (b.2 x n).trans (a.2 x n)⟩
def LTs : Str := "abcdefghijklmnopqrstuvwxyz"
def LT : List Nat := LTs.cps.toList
def isName (z : Str) : Bool := (decide (1 ≤ z.length) && decide (z.length ≤ 12)) && z.cps.toList.all (fun c => decide (c ∈ LT))
structure Tabs {K : PySem.W.Frag} {mg : Str → Option Value} (base : Heap) (T : D K mg) : Prop where
  a : TabB base mg T.c_is_path T.P_is_path
  b : TabB base mg T.c_is_pattern T.P_is_pattern
  c : TabB base mg T.c_is_name T.P_is_name
def TT3 {K : PySem.W.Frag} {mg : Str → Option Value} (T : D K mg) (H : Hp) : Prop := TabG H T.P_is_path ∧ TabG H T.P_is_pattern ∧ TabG H T.P_is_name
/-- but for the tables all is as it was -/
def Up {K : PySem.W.Frag} {mg : Str → Option Value} (T : D K mg) (H H' : Hp) : Prop := TT3 T H' ∧ ∀ b, b ≠ T.P_is_path → b ≠ T.P_is_pattern → b ≠ T.P_is_name → ∀ o, H b = some o → H' b = some o
def pathD : PyData → Bool
  | .str z => isPath z
  | _ => false
def patD : PyData → Bool
  | .str z => isPat z
  | _ => false
def nameD : PyData → Bool
  | .str z => isName z
  | _ => false
/-- a text isn't too long -/
def ShortD : PyData → Prop
  | .str z => z.length ≤ 1000
  | _ => True
def spOfD (Pt : Addr) (f : PyData → Bool) : Sp := fun vs H Q _ => ∃ v d, vs = [v] ∧ Od H v d ∧ ShortD d ∧ TabG H Pt ∧ ∀ H', Tabbed Pt H H' → Q (.bl (f d)) H'
def spChkPath (Pt : Addr) : Sp := fun vs H Q _ => ∃ z, vs = [.str z] ∧ z.length ≤ 1000 ∧ isPath z = true ∧ TabG H Pt ∧ ∀ H', Tabbed Pt H H' → Q .non H'
theorem str_or {H : Hp} {v : V} {d : PyData} (h : Od H v d) : (∃ z, v = .str z ∧ d = .str z) ∨ isStrD d = false := by
  cases h with
  | str z => exact .inl ⟨z, rfl, rfl⟩
  | _ => exact .inr rfl
theorem no_path {d : PyData} (h : isStrD d = false) : pathD d = false := by
  cases d <;> first | rfl | cases h
theorem no_pat {d : PyData} (h : isStrD d = false) : patD d = false := by
  cases d <;> first | rfl | cases h
theorem no_name {d : PyData} (h : isStrD d = false) : nameD d = false := by
  cases d <;> first | rfl | cases h
theorem iteT' {c : Bool} {A B : Prop} (hc : c = true) (h : A) : if c = true then A else B := by
  subst hc
  exact h
section
variable {P : Program} {w : World} {K : PySem.W.Frag} {mg : Str → Option Value} {base : Heap}
theorem sc_is_path : FnScope ["value"] ["value"] (defScope s_is_path) := ⟨rfl, rfl, rfl, by decide +kernel, rfl, by decide +kernel, by decide +kernel⟩
theorem ok_is_path (T : D K mg) (TB : Tabs base T) : FnOk P w K mg base CX0 2 T.f_is_path T.d_is_path ["value"] (spOfD T.P_is_path pathD) := by
  refine T.V_is_path.ok sc_is_path (fun vs H Q E h => ?_) (fun A outer s H vs Q E hr h => ?_)
  · obtain ⟨v, d, rfl, _⟩ := h
    rfl
  · obtain ⟨v, d, rfl, hd, hl, hT, k⟩ := h
    refine ⟨_, pss_cons (ps_if (PW.pt (pw_or (pt_not (pt_val (pe_callB call_isi (by rfl) T.isinstance (by decide +kernel) (pa_cons (pv 0) (pa_cons (pe_bltn (v := .ty "str") (by rfl) T.str (by decide +kernel) rfl) pa_nil))))) (pw_or1 (pt_not (pt_val (pe_m1 PySem.F.slot_str_startswith PySem.F.type_str_startswith mt_startswith (pv 0) pe_str))))))
        (pss_one (ps_ret pe_bl))
        (pss_nil))
      (pss_one (ps_ret (pe_allG (pb := fun c => decide (c ∈ SG)) hr (by rfl) T.all TB.a rfl (gens_mk rfl rfl (by decide +kernel) (by rfl) (by rfl) (by decide +kernel)) (pv 0) (eg_in (y := SGs) rfl (by rfl) (by rfl) T.g_SIGNS) (fun _ => rfl)))), ?_⟩
    refine ⟨_, rfl, _, _, _, _, _, rfl, .ty _, hd.ty, kStr d, _, rfl, ?_⟩
    rcases str_or hd with ⟨z, rfl, rfl⟩ | hn
    case inr => exact iteT' (by rw [hn]; rfl) (by rw [← no_path hn]; exact k H (Tabbed.refl hT))
    refine iteF ?_
    have k : ∀ H', Tabbed T.P_is_path H H' → Q (.bl (isPath z)) H' := k
    refine ⟨_, rfl, ⟨z, rfl⟩, z, _, rfl, rfl, _, rfl, ?_⟩
    have e : Txt.startswith z "/" = (z.cps.toList[0]? == some 47) := by rw [lit_slash, tx_starts]
    rw [e]
    cases hq : z.cps.toList[0]? == some 47 with
    | false =>
      refine iteT ?_
      have : isPath z = false := by unfold isPath; rw [hq]; rfl
      rw [← this]
      exact k H (Tabbed.refl hT)
    | true =>
      refine iteF ⟨_, rfl, z, rfl, hT, fun H2 h2 => ?_⟩
      have : isPath z = z.cps.toList.all (fun c => decide (c ∈ SG)) := by unfold isPath; rw [hq]; rfl
      have q := k H2 h2
      rw [this] at q
      exact q
theorem sc_check_path : FnScope ["given"] ["given"] (defScope s_check_path) := ⟨rfl, rfl, rfl, by decide +kernel, rfl, by decide +kernel, by decide +kernel⟩
theorem ok_check_path (T : D K mg) (TB : Tabs base T) : FnOk P w K mg base CX0 3 T.f_check_path T.d_check_path ["given"] (spChkPath T.P_is_path) := by
  refine T.U_check_path.ok sc_check_path (fun vs H Q E h => ?_) (fun cdv A outer s H vs Q E hr h => ?_)
  · obtain ⟨z, rfl, _⟩ := h
    rfl
  · obtain ⟨z, rfl, hl, hz, hT, k⟩ := h
    refine ⟨_, pss_one (ps_if (pt_not (pt_val (pe_call (ok_is_path T TB) hr rfl T.g_is_path T.U_is_path.kp T.b_is_path .nil pass0 (pa_cons (pv 0) pa_nil))))
        (pss_one ps_never)
        pss_nil), ?_⟩
    refine ⟨_, rfl, _, .str z, rfl, .str z, hl, hT, fun H' h' => ⟨_, rfl, ?_⟩⟩
    rw [show pathD (.str z) = true from hz]
    exact iteF (k H' h')
theorem sc_is_pattern : FnScope ["value", "inner"] ["value"] (defScope s_is_pattern) := ⟨rfl, rfl, rfl, by decide +kernel, rfl, by decide +kernel, by decide +kernel⟩
theorem ok_is_pattern (T : D K mg) (TB : Tabs base T) : FnOk P w K mg base CX0 2 T.f_is_pattern T.d_is_pattern ["value"] (spOfD T.P_is_pattern patD) := by
  refine T.V_is_pattern.ok sc_is_pattern (fun vs H Q E h => ?_) (fun A outer s H vs Q E hr h => ?_)
  · obtain ⟨v, d, rfl, _⟩ := h
    rfl
  · obtain ⟨v, d, rfl, hd, hl, hT, k⟩ := h
    have nd := sc_is_pattern.nd
    refine ⟨_, pss_cons (ps_if (PW.pt (pw_or (pt_not (pt_val (pe_callB call_isi (by rfl) T.isinstance (by decide +kernel) (pa_cons (pv 0) (pa_cons (pe_bltn (v := .ty "str") (by rfl) T.str (by decide +kernel) rfl) pa_nil))))) (pw_or1 (pt_not (pt_chain op_le op_le pe_int (pe_callB call_len_str (by rfl) T.len PySem.boot_len (pa_cons (pv 0) pa_nil)) (pe_glob (v := .int 12) rfl T.g_LONGEST_PATTERN ⟨_, rfl⟩))))))
        (pss_one (ps_ret pe_bl))
        (pss_nil))
      (pss_cons (ps_set (i := 1) nd rfl (.inl rfl) (pe_bm PySem.F.plainAttrs_str PySem.F.slot_str_removesuffix PySem.F.type_str_removesuffix mt_removesuffix (pv 0) (pa_cons pe_str pa_nil)))
      (pss_one (ps_ret (pe_and (pe_m1 PySem.F.slot_str_startswith PySem.F.type_str_startswith mt_startswith (pv 1) pe_str) (pe_one
        (pe_allG (pb := fun c => ([c] == ("*" : Str).cps.toList) || decide (c ∈ SG)) hr (by rfl) T.all TB.b rfl (gens_mk rfl rfl (by decide +kernel) (by rfl) (by rfl) (by decide +kernel)) (pv 1) (eg_or (eg_eq rfl (by rfl)) (eg_in (y := SGs) rfl (by rfl) (by rfl) T.g_SIGNS)) (fun _ => rfl))))))), ?_⟩
    refine ⟨_, rfl, _, _, _, _, _, rfl, .ty _, hd.ty, kStr d, _, rfl, ?_⟩
    rcases str_or hd with ⟨z, rfl, rfl⟩ | hn
    case inr => exact iteT' (by rw [hn]; rfl) (by rw [← no_pat hn]; exact k H (Tabbed.refl hT))
    refine iteF ?_
    have k : ∀ H', Tabbed T.P_is_pattern H H' → Q (.bl (isPat z)) H' := k
    have hl : z.length ≤ 1000 := hl
    have hz : z.length ≤ sizeLine := Nat.le_trans hl (by decide)
    refine ⟨_, rfl, _, rfl, hz, _, _, rfl, rfl, _, rfl, ?_⟩
    have bad : (decide (1 ≤ z.length) && decide (z.length ≤ 12)) = false → isPat z = false := fun e => by unfold isPat; rw [e]; rfl
    have out : isPat z = false → Q (.bl false) H := fun e => by
      have q := k H (Tabbed.refl hT)
      rw [e] at q
      exact q
    have d1 : decide ((1 : Int) ≤ (z.length : Nat)) = decide (1 ≤ z.length) := by
      apply decide_eq_decide.mpr
      omega
    have d2 : decide (((z.length : Nat) : Int) ≤ 12) = decide (z.length ≤ 12) := by
      apply decide_eq_decide.mpr
      omega
    rw [d1]
    cases h1 : decide (1 ≤ z.length) with
    | false => exact iteF ⟨_, rfl, iteT (out (bad (by rw [h1]; rfl)))⟩
    | true =>
      refine iteT ⟨_, _, rfl, rfl, _, rfl, ?_⟩
      rw [d2]
      cases h2 : decide (z.length ≤ 12) with
      | false => exact iteT (out (bad (by rw [h1, h2]; rfl)))
      | true =>
        refine iteF ⟨_, rfl, rfl, _, _, rfl, rfl, hz, ?_⟩
        have eI : (Txt.removesuffix z "$").cps.toList = innerOf z := by rw [lit_dollar, tx_suffix]; rfl
        have eS : Txt.startswith (Txt.removesuffix z "$") "/" = ((innerOf z)[0]? == some 47) := by rw [lit_slash, tx_starts, eI]
        have eP : isPat z = ((innerOf z)[0]? == some 47 && (innerOf z).all (fun c => c == 42 || decide (c ∈ SG))) := by unfold isPat; rw [h1, h2]; rfl
        refine ⟨_, rfl, ⟨_, rfl⟩, _, _, rfl, rfl, _, rfl, ?_⟩
        rw [eS]
        cases hq : (innerOf z)[0]? == some 47 with
        | false => exact iteF (out (by rw [eP, hq]; rfl))
        | true =>
          refine iteT ⟨_, rfl, _, rfl, hT, fun H2 t2 => ?_⟩
          have q := k H2 t2
          rw [eP, hq] at q
          have ea : ((Txt.removesuffix z "$").cps.toList.all fun c => ([c] == ("*" : Str).cps.toList) || decide (c ∈ SG)) = (innerOf z).all (fun c => c == 42 || decide (c ∈ SG)) := by
            rw [eI]
            congr 1
            funext c
            have : ([c] == ("*" : Str).cps.toList) = (c == 42) := by
              rw [lit_star]
              show ([c] == [42]) = (c == 42)
              cases hc : c == 42 <;> simp_all
            rw [this]
          show Q (.bl ((Txt.removesuffix z "$").cps.toList.all fun c => ([c] == ("*" : Str).cps.toList) || decide (c ∈ SG))) H2
          rw [ea]
          exact q
theorem sc_is_name : FnScope ["value"] ["value"] (defScope s_is_name) := ⟨rfl, rfl, rfl, by decide +kernel, rfl, by decide +kernel, by decide +kernel⟩
theorem ok_is_name (T : D K mg) (TB : Tabs base T) : FnOk P w K mg base CX0 2 T.f_is_name T.d_is_name ["value"] (spOfD T.P_is_name nameD) := by
  refine T.V_is_name.ok sc_is_name (fun vs H Q E h => ?_) (fun A outer s H vs Q E hr h => ?_)
  · obtain ⟨v, d, rfl, _⟩ := h
    rfl
  · obtain ⟨v, d, rfl, hd, hl, hT, k⟩ := h
    have nd := sc_is_name.nd
    refine ⟨_, pss_cons (ps_if (PW.pt (pw_or (pt_not (pt_val (pe_callB call_isi (by rfl) T.isinstance (by decide +kernel) (pa_cons (pv 0) (pa_cons (pe_bltn (v := .ty "str") (by rfl) T.str (by decide +kernel) rfl) pa_nil))))) (pw_or1 (pt_not (pt_chain op_le op_le pe_int (pe_callB call_len_str (by rfl) T.len PySem.boot_len (pa_cons (pv 0) pa_nil)) (pe_glob (v := .int 12) rfl T.g_LONGEST_NAME ⟨_, rfl⟩))))))
        (pss_one (ps_ret pe_bl))
        (pss_nil))
      (pss_one (ps_ret (pe_allG (pb := fun c => decide (c ∈ LT)) hr (by rfl) T.all TB.c rfl (gens_mk rfl rfl (by decide +kernel) (by rfl) (by rfl) (by decide +kernel)) (pv 0) (eg_in (y := LTs) rfl (by rfl) (by rfl) T.g_LETTERS) (fun _ => rfl)))), ?_⟩
    refine ⟨_, rfl, _, _, _, _, _, rfl, .ty _, hd.ty, kStr d, _, rfl, ?_⟩
    rcases str_or hd with ⟨z, rfl, rfl⟩ | hn
    case inr => exact iteT' (by rw [hn]; rfl) (by rw [← no_name hn]; exact k H (Tabbed.refl hT))
    refine iteF ?_
    have k : ∀ H', Tabbed T.P_is_name H H' → Q (.bl (isName z)) H' := k
    have hl : z.length ≤ 1000 := hl
    have hz : z.length ≤ sizeLine := Nat.le_trans hl (by decide)
    refine ⟨_, rfl, _, rfl, hz, _, _, rfl, rfl, _, rfl, ?_⟩
    have bad : (decide (1 ≤ z.length) && decide (z.length ≤ 12)) = false → isName z = false := fun e => by unfold isName; rw [e]; rfl
    have out : isName z = false → Q (.bl false) H := fun e => by
      have q := k H (Tabbed.refl hT)
      rw [e] at q
      exact q
    have d1 : decide ((1 : Int) ≤ (z.length : Nat)) = decide (1 ≤ z.length) := by
      apply decide_eq_decide.mpr
      omega
    have d2 : decide (((z.length : Nat) : Int) ≤ 12) = decide (z.length ≤ 12) := by
      apply decide_eq_decide.mpr
      omega
    rw [d1]
    cases h1 : decide (1 ≤ z.length) with
    | false => exact iteF ⟨_, rfl, iteT (out (bad (by rw [h1]; rfl)))⟩
    | true =>
      refine iteT ⟨_, _, rfl, rfl, _, rfl, ?_⟩
      rw [d2]
      cases h2 : decide (z.length ≤ 12) with
      | false => exact iteT (out (bad (by rw [h1, h2]; rfl)))
      | true =>
        refine iteF ⟨_, rfl, z, rfl, hT, fun H2 t2 => ?_⟩
        have q := k H2 t2
        have eP : isName z = z.cps.toList.all (fun c => decide (c ∈ LT)) := by unfold isName; rw [h1, h2]; rfl
        rw [eP] at q
        exact q
end
end KP

set_option Elab.async false
set_option maxRecDepth 100000
set_option maxHeartbeats 4000000
set_option linter.all false
/-! Ours: the law's own looks. -/
namespace KP
open PySem PySem.Spec PyProof.Rows L2 Gr GxR
theorem next_of {E : Ends} {σ : L2.St} {H : Hp} (h : E.nx σ H) : tNext E σ H := h
/-- texts of one sign each -/
def oneV (l : List Nat) : List V := l.map fun c => V.str ⟨#[c]⟩
theorem oneV_len (l : List Nat) : (oneV l).length = l.length := List.length_map _
theorem take_filt {l : List Nat} (g : Nat → Bool) {i c : Nat} (h : l[i]? = some c) : (l.take (i + 1)).filter g = (l.take i).filter g ++ (if g c = true then [c] else []) := by
  rw [List.take_add_one, h, List.filter_append]
  cases ht : g c <;> simp [ht]
def oneD (l : List Nat) : PyData := .list (l.map fun c => PyData.str ⟨#[c]⟩)
theorem dpAll_one {K : PySem.W.Frag} {H : Hp} : ∀ l : List Nat, DpAll K H (oneV l) (l.map fun c => PyData.str ⟨#[c]⟩)
  | [] => .nil
  | c :: l => .cons (.str _) (dpAll_one l)
theorem one_ok {l : List Nat} (h : ∀ c ∈ l, c < 1114112) : PyData.canLayAll0 (l.map fun c => PyData.str ⟨#[c]⟩) = true := by
  induction l with
  | nil => rfl
  | cons c l ih =>
    have h1 := h c List.mem_cons_self
    have h2 := ih fun d hd => h d (List.mem_cons_of_mem _ hd)
    simp [PyData.canLayAll0, PyData.canLay0, PyData.strOk, h1, h2]
theorem one_depth (l : List Nat) : PyData.depthAll (l.map fun c => PyData.str ⟨#[c]⟩) ≤ 3 := by
  induction l with
  | nil => simp [PyData.depthAll]
  | cons c l ih =>
    simp only [List.map_cons, PyData.depthAll, PyData.depth]
    omega
theorem one_shaped {l : List Nat} (h : ∀ c ∈ l, c < 1114112) : SeqAt.shaped (oneD l) = true := by
  have h1 := one_ok h
  have h2 := one_depth l
  rw [SeqAt.shaped.eq_def]
  unfold oneD
  simp only [PyData.canLay0, PyData.depth, h1, Bool.true_and]
  exact decide_eq_true (by omega)
theorem one_eqv (l : List Nat) : PyData.eqv (oneD l) (.list []) = l.isEmpty := by
  cases l with
  | nil => rfl
  | cons c l => rfl
/-- a text's signs are signs of texts -/
def GoodD : PyData → Prop
  | .str z => z.length ≤ 1000 ∧ ∀ c ∈ z.cps.toList, c < 1114112
  | _ => True
theorem filt_all (l : List Nat) (g : Nat → Bool) : (l.filter fun c => !g c).isEmpty = l.all g := by
  induction l with
  | nil => rfl
  | cons c l ih =>
    cases h : g c <;> simp [h] at ih ⊢
    exact ih
def spLook (f : PyData → Bool) : Sp := fun vs H Q _ => ∃ v d, vs = [v] ∧ Od H v d ∧ GoodD d ∧ ∀ H', Same H H' → Q (.bl (f d)) H'
section
variable {P : Program} {w : World} {K : PySem.W.Frag} {mg : Str → Option Value} {base : Heap}
theorem sc_lfrac : FnScope ["_law_value"] ["_law_value"] (defScope s_l_is_fraction) := ⟨rfl, rfl, rfl, by decide +kernel, rfl, by decide +kernel, by decide +kernel⟩
theorem ok_lfrac (T : D K mg) : FnOk P w K mg base CX0 2 T.f_l_is_fraction T.d_l_is_fraction ["_law_value"] spFrac := by
  refine T.U_l_is_fraction.ok sc_lfrac (fun vs H Q E h => ?_) (fun cdv A outer s H vs Q E hr h => ?_)
  · obtain ⟨v, d, rfl, _⟩ := h
    rfl
  · obtain ⟨v, d, rfl, hd, hs, k⟩ := h
    have nd := sc_lfrac.nd
    refine ⟨_, pss_cons (ps_if (PW.pt (pw_or (pt_not (pt_val (pe_callB call_isi (by rfl) T.isinstance (by decide +kernel) (pa_cons (pv 0) (pa_cons (pe_bltn (v := .ty "tuple") (by rfl) T.tuple (by decide +kernel) rfl) pa_nil))))) (pw_or (pt_cmpR op_ne (pe_callB call_len_seq (by rfl) T.len PySem.boot_len (pa_cons (pv 0) pa_nil)) pe_int (nomark _)) (pw_or (pt_not (pt_val (pe_call (ok_lwhole T) hr rfl T.g_l_is_whole T.U_l_is_whole.kp T.b_l_is_whole .nil pass0 (pa_cons (pe_ix ix_tup (pv 0) pe_int (fun _ _ => rfl)) pa_nil)))) (pw_or1 (pt_not (pt_val (pe_call (ok_lwhole T) hr rfl T.g_l_is_whole T.U_l_is_whole.kp T.b_l_is_whole .nil pass0 (pa_cons (pe_ix ix_tup (pv 0) pe_int (fun _ _ => rfl)) pa_nil)))))))))
        (pss_one (ps_ret pe_bl))
        (pss_nil))
      (pss_one (ps_ret (pe_and (pe_cmpR op_gt (pe_ix ix_tup (pv 0) pe_int (fun _ _ => rfl)) pe_int (nomark _)) (pe_one (pe_cmpR op_eq (pe_call (ok_div T) hr rfl T.g_l_divisor T.U_l_divisor.kp T.b_l_divisor .nil pass0 (pa_cons (pe_ix ix_tup (pv 0) pe_int (fun _ _ => rfl)) (pa_cons (pe_ix ix_tup (pv 0) pe_int (fun _ _ => rfl)) pa_nil))) pe_int (nomark _)))))), ?_⟩
    refine ⟨_, rfl, _, _, _, _, _, rfl, .ty _, hd.ty, kTup d, _, rfl, ?_⟩
    by_cases ht : isTupD d = true
    case neg =>
      have : fracD d = false := by cases d <;> first | rfl | exact absurd rfl ht
      rw [this] at k
      exact iteT' (by simpa using ht) k
    rw [ht]
    refine iteF ?_
    cases hd with
    | tup e a =>
      rename_i ad xs ds
      refine ⟨_, rfl, ad, _, rfl, .inr (SqT.of e), rfl, _, rfl, ?_⟩
      by_cases h2 : xs.length = 2
      case neg =>
        have : fracD (.tuple ds) = false := frac_row (by
          cases hr2 : rowD (.tuple ds) 2 2 with
          | false => rfl
          | true =>
            obtain ⟨x, y, e2⟩ := row2.mp hr2
            cases e2
            exact absurd a.len h2)
        rw [this] at k
        refine iteT' ?_ k
        have : ¬ V.int ((xs.length : Nat) : Int) = V.int 2 := fun q => h2 (by have := V.int.inj q; omega)
        rw [decide_eq_false this]
        rfl
      have hz : (!decide (V.int ((xs.length : Nat) : Int) = V.int 2)) = false := by rw [h2]; rfl
      rw [hz]
      refine iteF ?_
      have hrow : rowD (.tuple ds) 2 2 = true := by
        show (decide ((2 : Int) ≤ (ds.length : Nat)) && decide (((ds.length : Nat) : Int) ≤ 2)) = true
        rw [← a.len, h2]
        decide
      obtain ⟨x, y, e2⟩ := row2.mp hrow
      cases e2
      cases a with
      | cons h1 a =>
        cases a with
        | cons h3 a =>
          cases a
          refine ⟨_, rfl, ad, _, 0, _, rfl, rfl, SqT.of e, rfl, _, _, rfl, h1, _, rfl, ?_⟩
          rcases whole_or x with ⟨n, rfl⟩ | hx
          case inr =>
            rw [hx]
            rw [frac_no1 hx] at k
            exact iteT k
          refine iteF ⟨_, rfl, ad, _, 1, _, rfl, rfl, SqT.of e, rfl, _, _, rfl, h3, _, rfl, ?_⟩
          rcases whole_or y with ⟨m, rfl⟩ | hy
          case inr =>
            rw [hy]
            rw [frac_no2 hy] at k
            exact iteT k
          cases od_int h1
          cases od_int h3
          refine iteF ?_
          refine next_of ?_
          dsimp only
          refine and_pure (decide (0 < m)) (Nat.gcd n.natAbs m.natAbs == 1) (fun Q' q' => ⟨_, rfl, ad, _, 1, _, rfl, rfl, SqT.of e, rfl, _, _, rfl, rfl, q'⟩) (fun hm Q' q' => ⟨_, rfl, ad, _, 0, _, rfl, rfl, SqT.of e, rfl, _, rfl, ad, _, 1, _, rfl, rfl, SqT.of e, rfl, n, m, rfl, of_decide_eq_true hm, hs, rfl, ?_⟩) k
          have eg : decide (V.int ((Nat.gcd n.natAbs m.natAbs : Nat) : Int) = V.int 1) = (Nat.gcd n.natAbs m.natAbs == 1) := by
            rw [Bool.eq_iff_iff, decide_eq_true_eq, beq_iff_eq]
            constructor
            · intro q
              have := V.int.inj q
              omega
            · intro q
              rw [q]
              rfl
          rw [← eg] at q'
          exact q'
    | _ => cases ht
end
end KP

set_option Elab.async false
set_option maxRecDepth 100000
set_option maxHeartbeats 4000000
set_option linter.all false
/-! Ours: the law's own looks at texts. -/
namespace KP
open PySem PySem.Spec PyProof.Rows L2 Gr GxR
def spSigns : Sp := fun vs H Q _ => vs = [] ∧ Q (.str SGs) H
/-- the signs so far that g doesn't take, as a list at D -/
def Lk (H : Hp) (D : Addr) (l : List Nat) (g : Nat → Bool) (i : Nat) (H3 : Hp) : Prop := Same H H3 ∧ H3 D = some (.lst (oneV ((l.take i).filter fun c => !g c)))
theorem Lk.yes {H H3 : Hp} {D : Addr} {l : List Nat} {g : Nat → Bool} {i c : Nat} (hD : H D = none) (s : Lk H D l g i H3) (hcl : l[i]? = some c) (hz : l.length ≤ 1000) (h : (!g c) = true) :
    ∃ acc, H3 D = some (.lst acc) ∧ acc.length < sizeLine ∧ Lk H D l g (i + 1) (upd H3 D (.lst (acc ++ [V.str ⟨#[c]⟩]))) := by
  have mz : 5000 ≤ sizeLine := by decide
  refine ⟨_, s.2, ?_, same_into hD s.1, ?_⟩
  · rw [oneV_len]
    have h1 := List.length_filter_le (fun c => !g c) (l.take i)
    rw [List.length_take] at h1
    omega
  · rw [upd_same, take_filt (fun c => !g c) hcl, if_pos h]
    unfold oneV
    rw [List.map_append]
    rfl
theorem Lk.no {H H3 : Hp} {D : Addr} {l : List Nat} {g : Nat → Bool} {i c : Nat} (s : Lk H D l g i H3) (hcl : l[i]? = some c) (h : ¬ (!g c) = true) : Lk H D l g (i + 1) H3 := by
  refine ⟨s.1, ?_⟩
  rw [take_filt (fun c => !g c) hcl, if_neg h, List.append_nil]
  exact s.2
section
variable {P : Program} {w : World} {K : PySem.W.Frag} {mg : Str → Option Value} {base : Heap}
theorem sc_l_signs : FnScope [] [] (defScope s_l_signs) := ⟨rfl, rfl, rfl, by decide +kernel, rfl, by decide +kernel, by decide +kernel⟩
theorem ok_l_signs (T : D K mg) : FnOk P w K mg base CX0 1 T.f_l_signs T.d_l_signs [] spSigns := by
  refine T.U_l_signs.ok sc_l_signs (fun vs H Q E h => ?_) (fun cdv A outer s H vs Q E hr h => ?_)
  · rw [h.1]
    rfl
  · obtain ⟨rfl, k⟩ := h
    exact ⟨_, pss_one (ps_ret pe_str), k⟩
theorem sc_lname : FnScope ["_law_value", "_law_sign"] ["_law_value"] (defScope s_l_is_name) := ⟨rfl, rfl, rfl, by decide +kernel, rfl, by decide +kernel, by decide +kernel⟩
theorem ok_lname (T : D K mg) : FnOk P w K mg base CX0 1 T.f_l_is_name T.d_l_is_name ["_law_value"] (spLook nameD) := by
  refine T.U_l_is_name.ok sc_lname (fun vs H Q E h => ?_) (fun cdv A outer s H vs Q E hr h => ?_)
  · obtain ⟨v, d, rfl, _⟩ := h
    rfl
  · obtain ⟨v, d, rfl, hd, hg, k⟩ := h
    have nd := sc_lname.nd
    refine ⟨_, pss_cons (ps_if (PW.pt (pw_or (pt_not (pt_val (pe_callB call_isi (by rfl) T.isinstance (by decide +kernel) (pa_cons (pv 0) (pa_cons (pe_bltn (v := .ty "str") (by rfl) T.str (by decide +kernel) rfl) pa_nil))))) (pw_or1 (pt_not (pt_chain op_le op_le pe_int (pe_callB call_len_str (by rfl) T.len PySem.boot_len (pa_cons (pv 0) pa_nil)) pe_int)))))
        (pss_one (ps_ret pe_bl))
        (pss_nil))
      (pss_one (ps_ret (pe_cmpR (op_eqD hr.units) (pe_lc (own := [("_law_sign", 1)]) (g := gName 1) rfl nd (pi_str (pv 0)) (blkOk_by (N := ["_law_value", "_law_sign"]) (sc := defScope s_l_is_name) (by decide +kernel)) (fun _ _ _ _ _ => pg_name (i := 1) nd rfl (.inl rfl)) (fun _ _ _ _ _ => (pts_one (pt_cmpR op_notIn_sign (pv 1) pe_str rfl))) (fun _ _ _ _ _ => pv 1)) (pe_lst pa_nil) (nomark _)))), ?_⟩
    refine ⟨_, rfl, _, _, _, _, _, rfl, .ty _, hd.ty, kStr d, _, rfl, ?_⟩
    rcases str_or hd with ⟨z, rfl, rfl⟩ | hn
    case inr => exact iteT' (by rw [hn]; rfl) (by rw [← no_name hn]; exact k H (.refl _))
    refine iteF ?_
    have k : ∀ H', Same H H' → Q (.bl (isName z)) H' := k
    obtain ⟨hl, hc⟩ : z.length ≤ 1000 ∧ ∀ c ∈ z.cps.toList, c < 1114112 := hg
    have hz : z.length ≤ sizeLine := Nat.le_trans hl (by decide)
    refine ⟨_, rfl, _, rfl, hz, _, _, rfl, rfl, _, rfl, ?_⟩
    have bad : (decide (1 ≤ z.length) && decide (z.length ≤ 12)) = false → isName z = false := fun e => by unfold isName; rw [e]; rfl
    have out : isName z = false → Q (.bl false) H := fun e => by
      have q := k H (.refl _)
      rw [e] at q
      exact q
    have d1 : decide ((1 : Int) ≤ (z.length : Nat)) = decide (1 ≤ z.length) := by
      apply decide_eq_decide.mpr
      omega
    have d2 : decide (((z.length : Nat) : Int) ≤ 12) = decide (z.length ≤ 12) := by
      apply decide_eq_decide.mpr
      omega
    rw [d1]
    cases h1 : decide (1 ≤ z.length) with
    | false => exact iteF ⟨_, rfl, iteT (out (bad (by rw [h1]; rfl)))⟩
    | true =>
      refine iteT ⟨_, _, rfl, rfl, _, rfl, ?_⟩
      rw [d2]
      cases h2 : decide (z.length ≤ 12) with
      | false => exact iteT (out (bad (by rw [h1, h2]; rfl)))
      | true =>
        refine iteF ?_
        have eP : isName z = z.cps.toList.all (fun c => decide (c ∈ LT)) := by unfold isName; rw [h1, h2]; rfl
        refine ⟨_, rfl, z, rfl, fun D hD => lc_it (walk_str (z := z)) (Lk H D z.cps.toList (fun c => decide (c ∈ LT))) ⟨same_upd hD, upd_same⟩ (fun _ _ _ _ => trivial) ?_ ?_⟩
        · rintro i x H3 H4 hi s3 ⟨rfl, c, hc2, rfl⟩
          have hcl : z.cps.toList[i]? = some c := (Array.getElem?_toList (xs := z.cps) (i := i)).trans hc2
          exact ⟨rfl, _, rfl, c, LTs, rfl, rfl, _, rfl, ite2 (fun h => ⟨_, rfl, s3.yes hD hcl hl h⟩) (fun h => s3.no hcl h)⟩
        · rintro H3 ⟨s3, hDs⟩
          have e : z.cps.toList.take z.cps.size = z.cps.toList := List.take_of_length_le (Nat.le_refl _)
          rw [e] at hDs
          refine ⟨by show 0 ≤ sizeLine; omega, fun m hm => ⟨oneD (z.cps.toList.filter fun c => !decide (c ∈ LT)), .list [], .lst (SqL.of (same_upd hm _ _ hDs)) (dpAll_one _), .lst (SqL.of upd_same) .nil, one_shaped (fun c hcm => hc c (List.mem_filter.mp hcm).1), by decide +kernel, ?_⟩⟩
          rw [one_eqv, filt_all, ← eP]
          exact k _ (s3.trans (same_upd hm))
end
end KP

set_option Elab.async false
set_option maxRecDepth 100000
set_option maxHeartbeats 4000000
set_option linter.all false
/-! Ours: the law's own looks at paths and patterns. -/
namespace KP
open PySem PySem.Spec PyProof.Rows L2 Gr GxR
theorem cut_one (z : Str) : decide (V.str (cutS z none (some 1)) = V.str "/") = (z.cps.toList[0]? == some 47) := by
  rw [Bool.eq_iff_iff, decide_eq_true_eq, beq_iff_eq]
  have e : (cutS z none (some 1)).cps.toList = z.cps.toList.take 1 := cut_to z 1
  have e2 : ("/" : Str).cps.toList = [47] := by rw [lit_slash]
  cases h : z.cps.toList with
  | nil =>
    rw [h] at e
    constructor
    · intro q
      have := congrArg (fun x : Str => x.cps.toList) (V.str.inj q)
      rw [e, e2] at this
      cases this
    · intro q
      cases q
  | cons c l =>
    rw [h] at e
    constructor
    · intro q
      have := congrArg (fun x : Str => x.cps.toList) (V.str.inj q)
      rw [e, e2] at this
      have h3 : c = 47 := (List.cons.inj this).1
      rw [h3]
      rfl
    · intro q
      have hc : c = 47 := Option.some.inj q
      subst hc
      exact congrArg V.str (tx_ext (by rw [e, e2]; rfl))
theorem cut_mid (z : Str) : (cutS z (some 1) (some (-1))).cps.toList = z.cps.toList.dropLast.drop 1 := by
  unfold cutS
  show ((z.cps.toList.drop (HT.sIx z.length 0 (some ((1 : Nat) : Int)))).take (HT.sIx z.length z.length (some (-1)) - HT.sIx z.length 0 (some ((1 : Nat) : Int)))) = _
  have e1 : HT.sIx z.length z.length (some (-1)) = z.cps.toList.length - 1 := by
    unfold HT.sIx
    rw [tx_len]
    simp
    omega
  rw [e1, HT.sIx_nat, tx_len, List.dropLast_eq_take]
  cases h : z.cps.toList with
  | nil => rfl
  | cons c l =>
    have e2 : min 1 (c :: l).length = 1 := by rw [List.length_cons]; omega
    rw [e2, List.length_cons, Nat.add_sub_cancel]
    show l.take (l.length - 1) = ((c :: l).take l.length).drop 1
    rw [List.drop_take]
    rfl
/-- what the law looks through -/
def restOf (z : Str) : List Nat := if z.cps.toList.getLast? == some 36 then z.cps.toList.dropLast.drop 1 else z.cps.toList.drop 1
theorem pat_look {z : Str} (h1 : decide (1 ≤ z.length) = true) (h2 : decide (z.length ≤ 12) = true) (h47 : z.cps.toList[0]? = some 47) : isPat z = (restOf z).all (fun c => c == 42 || decide (c ∈ SG)) := by
  unfold isPat
  rw [h1, h2, Bool.true_and, Bool.true_and]
  cases hz : z.cps.toList with
  | nil => rw [hz] at h47; cases h47
  | cons c l =>
    rw [hz] at h47
    have hc : c = 47 := Option.some.inj h47
    subst hc
    have s47 : (47 : Nat) ∈ SG := by decide +kernel
    unfold innerOf restOf
    rw [hz]
    cases l with
    | nil =>
      simp [s47]
    | cons d l =>
      cases hl : (47 :: d :: l).getLast? == some 36 with
      | true => simp [s47]
      | false => simp [s47]
section
variable {P : Program} {w : World} {K : PySem.W.Frag} {mg : Str → Option Value} {base : Heap}
theorem sc_lpath : FnScope ["_law_value", "_law_sign"] ["_law_value"] (defScope s_l_is_path) := ⟨rfl, rfl, rfl, by decide +kernel, rfl, by decide +kernel, by decide +kernel⟩
theorem ok_lpath (T : D K mg) : FnOk P w K mg base CX0 2 T.f_l_is_path T.d_l_is_path ["_law_value"] (spLook pathD) := by
  refine T.U_l_is_path.ok sc_lpath (fun vs H Q E h => ?_) (fun cdv A outer s H vs Q E hr h => ?_)
  · obtain ⟨v, d, rfl, _⟩ := h
    rfl
  · obtain ⟨v, d, rfl, hd, hg, k⟩ := h
    have nd := sc_lpath.nd
    refine ⟨_, pss_cons (ps_if (PW.pt (pw_or (pt_not (pt_val (pe_callB call_isi (by rfl) T.isinstance (by decide +kernel) (pa_cons (pv 0) (pa_cons (pe_bltn (v := .ty "str") (by rfl) T.str (by decide +kernel) rfl) pa_nil))))) (pw_or1 (pt_cmpR op_ne (pe_slice sl_str (pv 0) po_none (po_some pe_int)) pe_str (nomark _)))))
        (pss_one (ps_ret pe_bl))
        (pss_nil))
      (pss_one (ps_ret (pe_cmpR (op_eqD hr.units) (pe_lc (own := [("_law_sign", 1)]) (g := gName 1) rfl nd (pi_str (pv 0)) (blkOk_by (N := ["_law_value", "_law_sign"]) (sc := defScope s_l_is_path) (by decide +kernel)) (fun _ _ _ _ _ => pg_name (i := 1) nd rfl (.inl rfl)) (fun _ _ _ _ _ => (pts_one (pt_cmpR op_notIn_sign (pv 1) (pe_call0 (ok_l_signs T) hr (by rfl) T.g_l_signs T.U_l_signs.kp T.b_l_signs .nil pass0) rfl))) (fun _ _ _ _ _ => pv 1)) (pe_lst pa_nil) (nomark _)))), ?_⟩
    refine ⟨_, rfl, _, _, _, _, _, rfl, .ty _, hd.ty, kStr d, _, rfl, ?_⟩
    rcases str_or hd with ⟨z, rfl, rfl⟩ | hn
    case inr => exact iteT' (by rw [hn]; rfl) (by rw [← no_path hn]; exact k H (.refl _))
    refine iteF ?_
    have k : ∀ H', Same H H' → Q (.bl (isPath z)) H' := k
    obtain ⟨hl, hc⟩ : z.length ≤ 1000 ∧ ∀ c ∈ z.cps.toList, c < 1114112 := hg
    have hz : z.length ≤ sizeLine := Nat.le_trans hl (by decide)
    refine ⟨_, rfl, _, rfl, z, rfl, hz, rfl, _, rfl, ?_⟩
    rw [cut_one]
    cases hq : z.cps.toList[0]? == some 47 with
    | false =>
      refine iteT ?_
      have : isPath z = false := by unfold isPath; rw [hq]; rfl
      rw [← this]
      exact k H (.refl _)
    | true =>
      have eP : isPath z = z.cps.toList.all (fun c => decide (c ∈ SG)) := by unfold isPath; rw [hq]; rfl
      refine iteF ?_
      refine ⟨_, rfl, z, rfl, fun D hD => lc_it (walk_str (z := z)) (Lk H D z.cps.toList (fun c => decide (c ∈ SG))) ⟨same_upd hD, upd_same⟩ (fun _ _ _ _ => trivial) ?_ ?_⟩
      · rintro i x H3 H4 hi s3 ⟨rfl, c, hc2, rfl⟩
        have hcl : z.cps.toList[i]? = some c := (Array.getElem?_toList (xs := z.cps) (i := i)).trans hc2
        exact ⟨rfl, _, rfl, rfl, c, SGs, rfl, rfl, _, rfl, ite2 (fun h => ⟨_, rfl, s3.yes hD hcl hl h⟩) (fun h => s3.no hcl h)⟩
      · rintro H3 ⟨s3, hDs⟩
        have e : z.cps.toList.take z.cps.size = z.cps.toList := List.take_of_length_le (Nat.le_refl _)
        rw [e] at hDs
        refine ⟨by show 0 ≤ sizeLine; omega, fun m hm => ⟨oneD (z.cps.toList.filter fun c => !decide (c ∈ SG)), .list [], .lst (SqL.of (same_upd hm _ _ hDs)) (dpAll_one _), .lst (SqL.of upd_same) .nil, one_shaped (fun c hcm => hc c (List.mem_filter.mp hcm).1), by decide +kernel, ?_⟩⟩
        rw [one_eqv, filt_all, ← eP]
        exact k _ (s3.trans (same_upd hm))
end
end KP

set_option Elab.async false
set_option maxRecDepth 100000
set_option maxHeartbeats 4000000
set_option linter.all false
/-! Ours: the law's own look at patterns. -/
namespace KP
open PySem PySem.Spec PyProof.Rows L2 Gr GxR
theorem atI_last' {α : Type} {xs : List α} (h : 0 < xs.length) : ∃ v, atI xs (-1) = some v ∧ xs.getLast? = some v := by
  have hn : xs ≠ [] := fun e => by rw [e] at h; cases h
  have := atI_last xs.dropLast (xs.getLast hn)
  rw [List.dropLast_concat_getLast hn] at this
  exact ⟨_, this, List.getLast?_eq_some_getLast hn⟩
def starSG : Str := SGs ++ ("*" : Str)
theorem starSG_mem (c : Nat) : decide (c ∈ starSG.cps.toList) = (c == 42 || decide (c ∈ SG)) := by
  have e : starSG.cps.toList = SG ++ [42] := by
    unfold starSG
    rw [lit_star]
    exact tx_app _ _
  rw [e, Bool.eq_iff_iff, decide_eq_true_eq, Bool.or_eq_true, beq_iff_eq, decide_eq_true_eq, List.mem_append, List.mem_singleton]
  exact Or.comm
theorem set_pure {te : TE} {i : Nat} {rest : TS} {E : Ends} {σ : L2.St} {H : Hp} (v : V) (h : ∀ Q' : VK, Q' v H → te σ H Q') (k : rest E (σ.set i (some v)) H) : tSeq (tAsg te (gName i)) rest E σ H := h _ k
def uOf (z : Str) : Str := if z.cps.toList.getLast? == some 36 then cutS z (some 1) (some (-1)) else cutS z (some 1) none
theorem uOf_list (z : Str) : (uOf z).cps.toList = restOf z := by
  unfold uOf restOf
  split
  · exact cut_mid z
  · exact cut_from z 1
theorem uOf_len (z : Str) : (uOf z).length ≤ z.length := by
  unfold uOf
  split <;> exact cutS_length _ _ _
theorem rest_mem {z : Str} {c : Nat} (h : c ∈ restOf z) : c ∈ z.cps.toList := by
  unfold restOf at h
  split at h
  · exact List.dropLast_subset _ (List.mem_of_mem_drop h)
  · exact List.mem_of_mem_drop h
section
variable {P : Program} {w : World} {K : PySem.W.Frag} {mg : Str → Option Value} {base : Heap}
theorem sc_lpat : FnScope ["_law_value", "_law_inner", "_law_sign"] ["_law_value"] (defScope s_l_is_pattern) := ⟨rfl, rfl, rfl, by decide +kernel, rfl, by decide +kernel, by decide +kernel⟩
theorem ok_lpat (T : D K mg) : FnOk P w K mg base CX0 2 T.f_l_is_pattern T.d_l_is_pattern ["_law_value"] (spLook patD) := by
  refine T.U_l_is_pattern.ok sc_lpat (fun vs H Q E h => ?_) (fun cdv A outer s H vs Q E hr h => ?_)
  · obtain ⟨v, d, rfl, _⟩ := h
    rfl
  · obtain ⟨v, d, rfl, hd, hg, k⟩ := h
    have nd := sc_lpat.nd
    refine ⟨_, pss_cons (ps_if (PW.pt (pw_or (pt_not (pt_val (pe_callB call_isi (by rfl) T.isinstance (by decide +kernel) (pa_cons (pv 0) (pa_cons (pe_bltn (v := .ty "str") (by rfl) T.str (by decide +kernel) rfl) pa_nil))))) (pw_or (pt_not (pt_chain op_le op_le pe_int (pe_callB call_len_str (by rfl) T.len PySem.boot_len (pa_cons (pv 0) pa_nil)) pe_int)) (pw_or1 (pt_cmpR op_ne (pe_ix ix_str (pv 0) pe_int (fun _ _ => rfl)) pe_str (nomark _))))))
        (pss_one (ps_ret pe_bl))
        (pss_nil))
      (pss_cons (ps_set (i := 1) nd rfl (.inl rfl) (pe_ifExp (PW.pt (pw_and (pt_cmpR op_gt (pe_callB call_len_str (by rfl) T.len PySem.boot_len (pa_cons (pv 0) pa_nil)) pe_int (nomark _)) (pw_and1 (pt_cmpR op_eq (pe_ix ix_str (pv 0) (pe_un un_neg pe_int) (fun _ _ => rfl)) pe_str (nomark _))))) (pe_slice sl_str (pv 0) (po_some pe_int) (po_some (pe_un un_neg pe_int))) (pe_slice sl_str (pv 0) (po_some pe_int) po_none)))
      (pss_one (ps_ret (pe_cmpR (op_eqD hr.units) (pe_lc (own := [("_law_sign", 2)]) (g := gName 2) rfl nd (pi_str (pv 1)) (blkOk_by (N := ["_law_value", "_law_inner", "_law_sign"]) (sc := defScope s_l_is_pattern) (by decide +kernel)) (fun _ _ _ _ _ => pg_name (i := 2) nd rfl (.inl rfl)) (fun _ _ _ _ _ => (pts_one (pt_cmpR op_notIn_sign (pv 2) (pe_op op_add_str (pe_call0 (ok_l_signs T) hr (by rfl) T.g_l_signs T.U_l_signs.kp T.b_l_signs .nil pass0) pe_str) rfl))) (fun _ _ _ _ _ => pv 2)) (pe_lst pa_nil) (nomark _))))), ?_⟩
    refine ⟨_, rfl, _, _, _, _, _, rfl, .ty _, hd.ty, kStr d, _, rfl, ?_⟩
    rcases str_or hd with ⟨z, rfl, rfl⟩ | hn
    case inr => exact iteT' (by rw [hn]; rfl) (by rw [← no_pat hn]; exact k H (.refl _))
    refine iteF ?_
    have k : ∀ H', Same H H' → Q (.bl (isPat z)) H' := k
    obtain ⟨hl, hc⟩ : z.length ≤ 1000 ∧ ∀ c ∈ z.cps.toList, c < 1114112 := hg
    have hz : z.length ≤ sizeLine := Nat.le_trans hl (by decide)
    refine ⟨_, rfl, _, rfl, hz, _, _, rfl, rfl, _, rfl, ?_⟩
    have bad : (decide (1 ≤ z.length) && decide (z.length ≤ 12)) = false → isPat z = false := fun e => by unfold isPat; rw [e]; rfl
    have out : isPat z = false → Q (.bl false) H := fun e => by
      have q := k H (.refl _)
      rw [e] at q
      exact q
    have d1 : decide ((1 : Int) ≤ (z.length : Nat)) = decide (1 ≤ z.length) := by
      apply decide_eq_decide.mpr
      omega
    have d2 : decide (((z.length : Nat) : Int) ≤ 12) = decide (z.length ≤ 12) := by
      apply decide_eq_decide.mpr
      omega
    rw [d1]
    cases h1 : decide (1 ≤ z.length) with
    | false => exact iteF ⟨_, rfl, iteT (out (bad (by rw [h1]; rfl)))⟩
    | true =>
      refine iteT ⟨_, _, rfl, rfl, _, rfl, ?_⟩
      rw [d2]
      cases h2 : decide (z.length ≤ 12) with
      | false => exact iteT (out (bad (by rw [h1, h2]; rfl)))
      | true =>
        have zl : 1 ≤ z.length := of_decide_eq_true h1
        have zb : 0 < z.cps.toList.length := zl
        obtain ⟨c0, hc0⟩ : ∃ c, z.cps.toList[0]? = some c := ⟨_, List.getElem?_eq_getElem zb⟩
        refine iteF ⟨_, rfl, z, 0, c0, rfl, rfl, hz, atI_nat (j := 0) hc0, rfl, _, rfl, ?_⟩
        by_cases h47 : c0 = 47
        case neg =>
          refine iteT' ?_ (out ?_)
          · have : ¬ V.str ⟨#[c0]⟩ = V.str "/" := fun q => h47 (by rw [lit_slash] at q; exact one_inj.mp (V.str.inj q))
            rw [decide_eq_false this]
            rfl
          · have : ¬ ((innerOf z)[0]? == some 47) = true := by
              intro q
              apply h47
              unfold innerOf at q
              rw [beq_iff_eq] at q
              split at q
              · rw [List.getElem?_dropLast] at q
                split at q
                · rw [hc0] at q
                  exact Option.some.inj q
                · cases q
              · rw [hc0] at q
                exact Option.some.inj q
            unfold isPat
            rw [Bool.eq_false_iff.mpr this, Bool.false_and, Bool.and_false]
        subst h47
        have hne : (!decide (V.str ⟨#[47]⟩ = V.str "/")) = false := by rw [lit_slash]; simp
        rw [hne]
        refine iteF (next_of ?_)
        dsimp only
        obtain ⟨cl, hl1, hl2⟩ := atI_last' zb
        -- the rest, as a text
        refine set_pure (V.str (uOf z)) (fun Q' q' => ?_) ?_
        · refine ⟨_, rfl, _, rfl, hz, _, _, rfl, rfl, _, rfl, ite2 (fun h => ?_) (fun h => ?_)⟩
          · refine ⟨_, rfl, _, rfl, z, _, cl, rfl, rfl, hz, hl1, rfl, _, rfl, ite2 (fun h => ?_) (fun h => ?_)⟩
            · have h36 : cl = 36 := by
                have := of_decide_eq_true h
                rw [lit_dollar] at this
                exact one_inj.mp (V.str.inj this)
              have e : (z.cps.toList.getLast? == some 36) = true := by rw [hl2, h36]; rfl
              unfold uOf at q'
              rw [if_pos e] at q'
              exact ⟨_, rfl, _, rfl, _, rfl, _, rfl, z, rfl, hz, q'⟩
            · have e : ¬ (z.cps.toList.getLast? == some 36) = true := by
                rw [hl2]
                intro q
                have h36 : cl = 36 := by simpa using q
                exact h (decide_eq_true (by rw [h36, lit_dollar]))
              unfold uOf at q'
              rw [if_neg e] at q'
              exact ⟨_, rfl, _, rfl, z, rfl, hz, q'⟩
          · have e : ¬ (z.cps.toList.getLast? == some 36) = true := by
              have l1 : z.cps.toList.length = 1 := by
                have : ¬ (1 : Int) < (z.length : Nat) := fun q => h (decide_eq_true q)
                have h3 : z.cps.toList.length = z.length := rfl
                omega
              match hzl : z.cps.toList, l1 with
              | [c], _ =>
                rw [hzl] at hc0
                have : c = 47 := Option.some.inj hc0
                rw [this]
                decide
            unfold uOf at q'
            rw [if_neg e] at q'
            exact ⟨_, rfl, _, rfl, z, rfl, hz, q'⟩
        · have ul : (uOf z).cps.toList.length ≤ 1000 := Nat.le_trans (uOf_len z) hl
          have eP : isPat z = (uOf z).cps.toList.all (fun c => decide (c ∈ starSG.cps.toList)) := by
            rw [pat_look h1 h2 hc0, uOf_list]
            congr 1
            funext c
            exact (starSG_mem c).symm
          refine ⟨_, rfl, uOf z, rfl, fun D hD => lc_it (walk_str (z := uOf z)) (Lk H D (uOf z).cps.toList (fun c => decide (c ∈ starSG.cps.toList))) ⟨same_upd hD, upd_same⟩ (fun _ _ _ _ => trivial) ?_ ?_⟩
          · rintro i x H3 H4 hi s3 ⟨rfl, c, hc2, rfl⟩
            have hcl : (uOf z).cps.toList[i]? = some c := (Array.getElem?_toList (xs := (uOf z).cps) (i := i)).trans hc2
            exact ⟨rfl, _, rfl, rfl, _, _, rfl, rfl, (by decide +kernel), c, starSG, rfl, rfl, _, rfl, ite2 (fun h => ⟨_, rfl, s3.yes hD hcl ul h⟩) (fun h => s3.no hcl h)⟩
          · rintro H3 ⟨s3, hDs⟩
            have e : (uOf z).cps.toList.take (uOf z).cps.size = (uOf z).cps.toList := List.take_of_length_le (Nat.le_refl _)
            rw [e] at hDs
            refine ⟨by show 0 ≤ sizeLine; omega, fun m hm => ⟨oneD ((uOf z).cps.toList.filter fun c => !decide (c ∈ starSG.cps.toList)), .list [], .lst (SqL.of (same_upd hm _ _ hDs)) (dpAll_one _), .lst (SqL.of upd_same) .nil, one_shaped (fun c hcm => hc c (rest_mem (by rw [← uOf_list]; exact (List.mem_filter.mp hcm).1))), by decide +kernel, ?_⟩⟩
            rw [one_eqv, filt_all, ← eP]
            exact k _ (s3.trans (same_upd hm))
end
end KP

set_option Elab.async false
set_option maxRecDepth 100000
set_option maxHeartbeats 4000000
set_option linter.all false
/-! Ours: the order of paths. -/
namespace KP
open PySem PySem.Spec PyProof.Rows L2 Gr GxR
section
variable {K : PySem.W.Frag} {mg : Str → Option Value} {T : D K mg} {H H1 H2 : Hp}
theorem TabG.same {p : Addr} (h : TabG H p) (s : Same H H1) : TabG H1 p := let ⟨ps, a, b⟩ := h; ⟨ps, s _ _ a, b⟩
theorem TT3.same (h : TT3 T H) (s : Same H H1) : TT3 T H1 := ⟨KP.TabG.same h.1 s, KP.TabG.same h.2.1 s, KP.TabG.same h.2.2 s⟩
theorem Up.refl (h : TT3 T H) : Up T H H := ⟨h, fun _ _ _ _ _ e => e⟩
theorem Up.trans (a : Up T H H1) (b : Up T H1 H2) : Up T H H2 := ⟨b.1, fun x n1 n2 n3 o e => b.2 x n1 n2 n3 o (a.2 x n1 n2 n3 o e)⟩
theorem Up.same (h : TT3 T H) (s : Same H H1) : Up T H H1 := ⟨h.same s, fun x _ _ _ o e => s x o e⟩
theorem TabG.tab {p q : Addr} (h : TabG H q) (t : Tabbed p H H1) : TabG H1 q := by
  by_cases e : q = p
  · rw [e]
    exact t.1
  · obtain ⟨ps, a, b⟩ := h
    exact ⟨ps, (t.2 _ e).trans a, b⟩
theorem Up.tab {p : Addr} (h : TT3 T H) (t : Tabbed p H H1) (hp : p = T.P_is_path ∨ p = T.P_is_pattern ∨ p = T.P_is_name) : Up T H H1 := by
  refine ⟨⟨KP.TabG.tab h.1 t, KP.TabG.tab h.2.1 t, KP.TabG.tab h.2.2 t⟩, fun x n1 n2 n3 o e => (t.2 x ?_).trans e⟩
  rcases hp with q | q | q
  · rw [q]; exact n1
  · rw [q]; exact n2
  · rw [q]; exact n3
def Stay (H H' : Hp) : Prop := ∀ a o, H a = some o → (∀ ps, o ≠ .tbl ps) → H' a = some o
theorem Up.stay (h : TT3 T H) (u : Up T H H1) : Stay H H1 := fun a o e n => by
  obtain ⟨⟨p1, e1, _⟩, ⟨p2, e2, _⟩, ⟨p3, e3, _⟩⟩ := h
  refine u.2 a (fun z => ?_) (fun z => ?_) (fun z => ?_) o e
  · rw [z, e1] at e
    exact n _ (Option.some.inj e).symm
  · rw [z, e2] at e
    exact n _ (Option.some.inj e).symm
  · rw [z, e3] at e
    exact n _ (Option.some.inj e).symm
end
mutual
theorem Od.stay {H H' : Hp} (s : Stay H H') : ∀ {v : V} {d : PyData}, Od H v d → Od H' v d
  | _, _, .non => .non
  | _, _, .bl b => .bl b
  | _, _, .int i => .int i
  | _, _, .str x => .str x
  | _, _, .lst e a => .lst (s _ _ e (fun _ q => nomatch q)) (OdAll.stay s a)
  | _, _, .tup e a => .tup (s _ _ e (fun _ q => nomatch q)) (OdAll.stay s a)
  | _, _, .dic e a b => .dic (s _ _ e (fun _ q => nomatch q)) (OdAll.stay s a) (OdAll.stay s b)
theorem OdAll.stay {H H' : Hp} (s : Stay H H') : ∀ {vs : List V} {ds : List PyData}, OdAll H vs ds → OdAll H' vs ds
  | _, _, .nil => .nil
  | _, _, .cons a b => .cons (Od.stay s a) (OdAll.stay s b)
end
def lessS (x y : Str) : Bool := if x.length = y.length then decide (x.cps.toList < y.cps.toList) else decide (x.length < y.length)
def idx (c : Nat) : Int := Txt.find SGs ⟨#[c]⟩
theorem idx_lt : ∀ c ∈ SG, ∀ d ∈ SG, (idx c < idx d ↔ c < d) := by decide +kernel
theorem idx_eq : ∀ c ∈ SG, ∀ d ∈ SG, (idx c = idx d ↔ c = d) := by decide +kernel
theorem lex_idx : ∀ (xs ys : List Nat), xs.length = ys.length → (∀ c ∈ xs, c ∈ SG) → (∀ c ∈ ys, c ∈ SG) → HT.lexLt (xs.map idx) (ys.map idx) = decide (xs < ys)
  | [], [], _, _, _ => by
    rw [List.map_nil, HT.lexLt_nil_nil]
    rfl
  | c :: xs, d :: ys, h, hx, hy => by
    have ih := lex_idx xs ys (Nat.succ.inj h) (fun e he => hx e (List.mem_cons_of_mem _ he)) (fun e he => hy e (List.mem_cons_of_mem _ he))
    have h1 := idx_lt c (hx c List.mem_cons_self) d (hy d List.mem_cons_self)
    have h2 := idx_eq c (hx c List.mem_cons_self) d (hy d List.mem_cons_self)
    rw [List.map_cons, List.map_cons, HT.lexLt_cons]
    by_cases q : c = d
    · subst q
      rw [if_pos rfl, ih]
      apply decide_eq_decide.mpr
      rw [List.cons_lt_cons_iff]
      constructor
      · intro e; exact .inr ⟨rfl, e⟩
      · rintro (e | ⟨_, e⟩)
        · exact absurd e (Nat.lt_irrefl _)
        · exact e
    · rw [if_neg (fun e => q (h2.mp e))]
      apply decide_eq_decide.mpr
      rw [List.cons_lt_cons_iff, h1]
      constructor
      · intro e; exact .inl e
      · rintro (e | ⟨e, _⟩)
        · exact e
        · exact absurd e q
theorem path_signs {z : Str} (h : isPath z = true) : ∀ c ∈ z.cps.toList, c ∈ SG := by
  unfold isPath at h
  rw [Bool.and_eq_true] at h
  intro c hc
  exact of_decide_eq_true (List.all_eq_true.mp h.2 c hc)
def spLess {K : PySem.W.Frag} {mg : Str → Option Value} (T : D K mg) : Sp := fun vs H Q _ => ∃ x y : Str, vs = [.str x, .str y] ∧ isPath x = true ∧ isPath y = true ∧ x.length ≤ 1000 ∧ y.length ≤ 1000 ∧ TT3 T H ∧ ∀ H', Up T H H' → Q (.bl (lessS x y)) H'
def spLLess : Sp := fun vs H Q _ => ∃ x y : Str, vs = [.str x, .str y] ∧ isPath x = true ∧ isPath y = true ∧ x.length ≤ 1000 ∧ y.length ≤ 1000 ∧ ∀ H', Same H H' → Q (.bl (lessS x y)) H'
section
variable {P : Program} {w : World} {K : PySem.W.Frag} {mg : Str → Option Value} {base : Heap}
theorem sc_sop : FnScope [] [] (defScope s_signs_of_paths) := ⟨rfl, rfl, rfl, by decide +kernel, rfl, by decide +kernel, by decide +kernel⟩
theorem ok_sop (T : D K mg) : FnOk P w K mg base CX0 1 T.f_signs_of_paths T.d_signs_of_paths [] spSigns := by
  refine T.U_signs_of_paths.ok sc_sop (fun vs H Q E h => ?_) (fun cdv A outer s H vs Q E hr h => ?_)
  · rw [h.1]
    rfl
  · obtain ⟨rfl, k⟩ := h
    exact ⟨_, pss_one (ps_ret (pe_glob (v := .str SGs) rfl T.g_SIGNS ⟨_, rfl⟩)), k⟩
theorem sc_less : FnScope ["path", "other"] ["path", "other"] (defScope s_is_lesser) := ⟨rfl, rfl, rfl, by decide +kernel, rfl, by decide +kernel, by decide +kernel⟩
theorem ok_less (T : D K mg) (TB : Tabs base T) : FnOk P w K mg base CX0 4 T.f_is_lesser T.d_is_lesser ["path", "other"] (spLess T) := by
  refine T.U_is_lesser.ok sc_less (fun vs H Q E h => ?_) (fun cdv A outer s H vs Q E hr h => ?_)
  · obtain ⟨x, y, rfl, _⟩ := h
    rfl
  · obtain ⟨x, y, rfl, hx, hy, lx, ly, hT, k⟩ := h
    have nd := sc_less.nd
    have mz : 1000 ≤ sizeLine := by decide
    refine ⟨_, pss_cons (ps_expr (pe_call (ok_check_path T TB) hr rfl T.g_check_path T.U_check_path.kp T.b_check_path .nil pass0 (pa_cons (pv 0) pa_nil)))
      (pss_cons (ps_expr (pe_call (ok_check_path T TB) hr rfl T.g_check_path T.U_check_path.kp T.b_check_path .nil pass0 (pa_cons (pv 1) pa_nil)))
      (pss_one (ps_ret (pe_cmpR (op_ltP hr.units0) (pe_tup (pa_cons (pe_callB call_len_str (by rfl) T.len PySem.boot_len (pa_cons (pv 0) pa_nil)) (pa_cons (pv 0) pa_nil))) (pe_tup (pa_cons (pe_callB call_len_str (by rfl) T.len PySem.boot_len (pa_cons (pv 1) pa_nil)) (pa_cons (pv 1) pa_nil))) (nomark _))))), ?_⟩
    refine ⟨_, rfl, x, rfl, lx, hx, hT.1, fun H1 t1 => ?_⟩
    have u1 := Up.tab hT t1 (.inl rfl)
    refine ⟨_, rfl, y, rfl, ly, hy, u1.1.1, fun H2 t2 => ?_⟩
    have u2 := u1.trans (Up.tab u1.1 t2 (.inl rfl))
    refine ⟨_, rfl, _, rfl, by omega, _, rfl, by show 2 ≤ sizeLine; decide, fun p hp => ⟨_, rfl, _, rfl, by omega, _, rfl, by show 2 ≤ sizeLine; decide, fun q hq => ?_⟩⟩
    have s1 := same_upd (o := HO.tup [V.int (x.length : Nat), V.str x]) hp
    have s2 := same_upd (o := HO.tup [V.int (y.length : Nat), V.str y]) hq
    refine ⟨p, q, _, _, _, _, rfl, rfl, SqT.of (s2 _ _ upd_same), SqT.of upd_same, ?_⟩
    have qq := k _ (u2.trans (Up.same u2.1 (s1.trans s2)))
    unfold lessS at qq
    have e1 : (((x.length : Nat) : Int) = ((y.length : Nat) : Int)) = (x.length = y.length) := propext (by omega)
    have e2 : decide (((x.length : Nat) : Int) < ((y.length : Nat) : Int)) = decide (x.length < y.length) := decide_eq_decide.mpr (by omega)
    rw [e2]
    by_cases h : x.length = y.length
    · rw [if_pos h] at qq
      rw [if_pos (by omega)]
      exact qq
    · rw [if_neg h] at qq
      rw [if_neg (by omega)]
      exact qq
end
end KP

set_option Elab.async false
set_option maxRecDepth 100000
set_option maxHeartbeats 4000000
set_option linter.all false
/-! Ours: the law's own order of paths. -/
namespace KP
open PySem PySem.Spec PyProof.Rows L2 Gr GxR
/-- what f tells of the signs so far, as a list at D -/
def Mp (H : Hp) (D : Addr) (l : List Nat) (f : Nat → Int) (i : Nat) (H3 : Hp) : Prop := Same H H3 ∧ H3 D = some (.lst (((l.take i).map f).map V.int))
theorem Mp.next {H H3 : Hp} {D : Addr} {l : List Nat} {f : Nat → Int} {i c : Nat} (hD : H D = none) (s : Mp H D l f i H3) (hcl : l[i]? = some c) (hz : l.length ≤ 1000) :
    ∃ acc, H3 D = some (.lst acc) ∧ acc.length < sizeLine ∧ Mp H D l f (i + 1) (upd H3 D (.lst (acc ++ [V.int (f c)]))) := by
  have mz : 5000 ≤ sizeLine := by decide
  refine ⟨_, s.2, ?_, same_into hD s.1, ?_⟩
  · rw [List.length_map, List.length_map, List.length_take]
    omega
  · rw [upd_same, List.take_add_one, hcl, List.map_append, List.map_append]
    rfl
section
variable {P : Program} {w : World} {K : PySem.W.Frag} {mg : Str → Option Value} {base : Heap}
theorem sc_lless : FnScope ["_law_one_here", "_law_other", "_law_order", "_law_sign"] ["_law_one_here", "_law_other"] (defScope s_l_lesser) := ⟨rfl, rfl, rfl, by decide +kernel, rfl, by decide +kernel, by decide +kernel⟩
theorem ok_lless (T : D K mg) : FnOk P w K mg base CX0 2 T.f_l_lesser T.d_l_lesser ["_law_one_here", "_law_other"] spLLess := by
  refine T.U_l_lesser.ok sc_lless (fun vs H Q E h => ?_) (fun cdv A outer s H vs Q E hr h => ?_)
  · obtain ⟨x, y, rfl, _⟩ := h
    rfl
  · obtain ⟨x, y, rfl, hx, hy, lx, ly, k⟩ := h
    have nd := sc_lless.nd
    have mz : 1000 ≤ sizeLine := by decide
    refine ⟨_, pss_cons (ps_if (pt_cmpR op_ne (pe_callB call_len_str (by rfl) T.len PySem.boot_len (pa_cons (pv 0) pa_nil)) (pe_callB call_len_str (by rfl) T.len PySem.boot_len (pa_cons (pv 1) pa_nil)) (nomark _))
        (pss_one (ps_ret (pe_cmpR op_lt (pe_callB call_len_str (by rfl) T.len PySem.boot_len (pa_cons (pv 0) pa_nil)) (pe_callB call_len_str (by rfl) T.len PySem.boot_len (pa_cons (pv 1) pa_nil)) (nomark _))))
        (pss_nil))
      (pss_cons (ps_set (i := 2) nd rfl (.inr rfl) (pe_call0 (ok_l_signs T) hr (by rfl) T.g_l_signs T.U_l_signs.kp T.b_l_signs .nil pass0))
      (pss_one (ps_ret (pe_cmpR (op_ltL hr.units0) (pe_lc (own := [("_law_sign", 3)]) (g := gName 3) (tt := tYes) rfl nd (pi_str (pv 0)) (blkOk_by (N := ["_law_one_here", "_law_other", "_law_order", "_law_sign"]) (sc := defScope s_l_lesser) (by decide +kernel)) (fun _ _ _ _ _ => pg_name (i := 3) nd rfl (.inl rfl)) (fun _ _ _ _ _ => pts_nil) (fun _ _ _ _ _ => pe_m1 PySem.F.slot_str_find PySem.F.type_str_find mt_find (pv 2) (pv 3))) (pe_lc (own := [("_law_sign", 3)]) (g := gName 3) (tt := tYes) rfl nd (pi_str (pv 1)) (blkOk_by (N := ["_law_one_here", "_law_other", "_law_order", "_law_sign"]) (sc := defScope s_l_lesser) (by decide +kernel)) (fun _ _ _ _ _ => pg_name (i := 3) nd rfl (.inl rfl)) (fun _ _ _ _ _ => pts_nil) (fun _ _ _ _ _ => pe_m1 PySem.F.slot_str_find PySem.F.type_str_find mt_find (pv 2) (pv 3))) (nomark _))))), ?_⟩
    refine ⟨_, rfl, _, rfl, by omega, _, rfl, _, rfl, by omega, rfl, _, rfl, ite2 (fun h => ?_) (fun h => ?_)⟩
    · have ne : ¬ x.length = y.length := by
        intro e
        rw [e] at h
        simp at h
      refine ⟨_, rfl, _, rfl, by omega, _, rfl, _, rfl, by omega, _, _, rfl, rfl, ?_⟩
      have qq := k H (.refl _)
      unfold lessS at qq
      rw [if_neg ne] at qq
      have e2 : decide (((x.length : Nat) : Int) < ((y.length : Nat) : Int)) = decide (x.length < y.length) := decide_eq_decide.mpr (by omega)
      show Q (.bl (decide (((x.length : Nat) : Int) < ((y.length : Nat) : Int)))) H
      rw [e2]
      exact qq
    · have ee : x.length = y.length := by
        by_cases q : x.length = y.length
        · exact q
        · exfalso
          apply h
          have : ¬ V.int ((x.length : Nat) : Int) = V.int ((y.length : Nat) : Int) := fun e => q (by have := V.int.inj e; omega)
          rw [decide_eq_false this]
          rfl
      refine next_of ?_
      dsimp only
      refine ⟨rfl, ?_⟩
      refine ⟨_, rfl, x, rfl, fun D hD => lc_it (walk_str (z := x)) (Mp H D x.cps.toList idx) ⟨same_upd hD, upd_same⟩ (fun _ _ _ _ => trivial) ?_ ?_⟩
      · rintro i v H3 H4 hi s3 ⟨rfl, c, hc2, rfl⟩
        have hcl : x.cps.toList[i]? = some c := (Array.getElem?_toList (xs := x.cps) (i := i)).trans hc2
        refine ⟨rfl, ?_⟩
        unfold tYes
        dsimp only
        rw [if_pos rfl]
        exact ⟨_, rfl, ⟨_, rfl⟩, _, rfl, SGs, _, rfl, rfl, s3.next hD hcl lx⟩
      · rintro H3 ⟨s3, hDs⟩
        have ex : x.cps.toList.take x.cps.size = x.cps.toList := List.take_of_length_le (Nat.le_refl _)
        rw [ex] at hDs
        refine ⟨_, rfl, y, rfl, fun D2 hD2 => lc_it (walk_str (z := y)) (Mp H3 D2 y.cps.toList idx) ⟨same_upd hD2, upd_same⟩ (fun _ _ _ _ => trivial) ?_ ?_⟩
        · rintro i v H4 H5 hi s4 ⟨rfl, c, hc2, rfl⟩
          have hcl : y.cps.toList[i]? = some c := (Array.getElem?_toList (xs := y.cps) (i := i)).trans hc2
          refine ⟨rfl, ?_⟩
          unfold tYes
          dsimp only
          rw [if_pos rfl]
          exact ⟨_, rfl, ⟨_, rfl⟩, _, rfl, SGs, _, rfl, rfl, s4.next hD2 hcl ly⟩
        · rintro H4 ⟨s4, hDs2⟩
          have ey : y.cps.toList.take y.cps.size = y.cps.toList := List.take_of_length_le (Nat.le_refl _)
          rw [ey] at hDs2
          refine ⟨D, D2, _, _, rfl, rfl, SqL.of (s4 _ _ hDs), SqL.of hDs2, ?_⟩
          rw [lex_idx _ _ ee (path_signs hx) (path_signs hy)]
          have qq := k H4 (s3.trans s4)
          unfold lessS at qq
          rw [if_pos ee] at qq
          exact qq
end
end KP

set_option Elab.async false
set_option maxRecDepth 100000
set_option maxHeartbeats 4000000
set_option linter.all false
/-! Ours: a value put into a row. -/
namespace KP
open PySem PySem.Spec PyProof.Rows L2 Gr GxR
theorem cutV_to (xs : List V) (n : Nat) : cutV xs none (some (n : Int)) = xs.take n := by
  unfold cutV
  rw [HT.sIx_none, HT.sIx_nat, List.drop_zero, Nat.sub_zero]
  by_cases h : n ≤ xs.length
  · rw [Nat.min_eq_left h]
  · rw [Nat.min_eq_right (by omega), List.take_of_length_le (Nat.le_refl _), List.take_of_length_le (by omega)]
theorem cutV_from (xs : List V) (n : Nat) : cutV xs (some (n : Int)) none = xs.drop n := by
  unfold cutV
  rw [HT.sIx_none, HT.sIx_nat]
  by_cases h : n ≤ xs.length
  · rw [Nat.min_eq_left h]
    exact List.take_of_length_le (by rw [List.length_drop]; exact Nat.le_refl _)
  · rw [Nat.min_eq_right (by omega), List.drop_of_length_le (Nat.le_refl _), List.drop_of_length_le (by omega), List.take_nil]
/-- t[:n] + (v,) + t[n + 1:] -/
theorem splice {K : PySem.W.Frag} {t0 t1 t2 t3 : TE} {σ : L2.St} {H : Hp} {Q : VK} {a : Addr} {xs : List V} {n : Nat} {v : V} (h0 : ∀ H' (Q' : VK), Q' (.ref a) H' → t0 σ H' Q') (h1 : ∀ H' (Q' : VK), Q' (.int (n : Nat)) H' → t1 σ H' Q') (h2 : ∀ H' (Q' : VK), Q' v H' → t2 σ H' Q') (h3 : ∀ H' (Q' : VK), Q' (.int ((n + 1 : Nat) : Int)) H' → t3 σ H' Q')
    (e : H a = some (.tup xs)) (hn : n < xs.length) (hl : xs.length ≤ 1000) (k : ∀ (p : Addr) (H' : Hp), Same H H' → H' p = some (.tup (xs.take n ++ [v] ++ xs.drop (n + 1))) → Q (.ref p) H') :
    tOp (rCatA K) (tOp (rCatA K) (tSl (rSlA K) t0 tNoPart (tPart t1)) (tTup (tCons t2 tNil))) (tSl (rSlA K) t0 (tPart t3) tNoPart) σ H Q := by
  have mz : 5000 ≤ sizeLine := by decide
  refine h0 _ _ (h1 _ _ ⟨_, rfl, a, xs, rfl, SqT.of e, fun q => ?_, fun _ p hp => ?_⟩)
  · exfalso
    rw [HT.sIx_nat] at q
    omega
  rw [cutV_to]
  have s1 := same_upd (o := HO.tup (xs.take n)) hp
  refine h2 _ _ ⟨by show 1 ≤ sizeLine; omega, fun q hq => ?_⟩
  have s2 := same_upd (o := HO.tup [v]) hq
  -- the last part, behind any first one
  have fin : ∀ (c : Addr) (H2 : Hp), Same H H2 → H2 c = some (.tup (xs.take n ++ [v])) → tSl (rSlA K) t0 (tPart t3) tNoPart σ H2 fun y H3 => rCatA K (.ref c) y H3 Q := fun c H2 s e2 => by
    refine h0 _ _ (h3 _ _ ⟨_, rfl, a, xs, rfl, SqT.of (s _ _ e), fun q => ?_, fun _ r hr => ?_⟩)
    · exfalso
      rw [HT.sIx_nat] at q
      omega
    rw [cutV_from]
    have s3 := same_upd (o := HO.tup (xs.drop (n + 1))) hr
    refine ⟨c, r, _, _, rfl, rfl, SqT.of (s3 _ _ e2), SqT.of upd_same, ?_, fun q => ?_, fun _ q => ?_, fun _ _ u hu => ?_⟩
    · rw [List.length_append, List.length_take, List.length_drop, List.length_singleton]
      omega
    · exfalso
      simp at q
    · refine k c _ (s.trans s3) ?_
      have z3 : xs.take n ++ [v] ++ xs.drop (n + 1) = xs.take n ++ [v] := by rw [q, List.append_nil]
      exact (s3 _ _ e2).trans (by rw [z3])
    · exact k u _ (s.trans (s3.trans (same_upd hu))) upd_same
  refine ⟨p, q, _, _, rfl, rfl, SqT.of (s2 _ _ upd_same), SqT.of upd_same, ?_, fun z => ?_, fun _ z => (nomatch z), fun _ _ u hu => ?_⟩
  · rw [List.length_take, List.length_singleton]
    omega
  · refine fin q _ (s1.trans s2) ?_
    rw [z, List.nil_append]
    exact upd_same
  · exact fin u _ (s1.trans (s2.trans (same_upd hu))) upd_same
theorem OdAll.take {H : Hp} : ∀ {vs : List V} {ds : List PyData} (n : Nat), OdAll H vs ds → OdAll H (vs.take n) (ds.take n)
  | _, _, 0, _ => by rw [List.take_zero, List.take_zero]; exact .nil
  | _, _, n + 1, .nil => by rw [List.take_nil, List.take_nil]; exact .nil
  | _, _, n + 1, .cons a b => .cons a (OdAll.take n b)
theorem OdAll.drop {H : Hp} : ∀ {vs : List V} {ds : List PyData} (n : Nat), OdAll H vs ds → OdAll H (vs.drop n) (ds.drop n)
  | _, _, 0, h => h
  | _, _, n + 1, .nil => by rw [List.drop_nil, List.drop_nil]; exact .nil
  | _, _, n + 1, .cons a b => OdAll.drop n b
theorem OdAll.app {H : Hp} : ∀ {vs ws : List V} {ds es : List PyData}, OdAll H vs ds → OdAll H ws es → OdAll H (vs ++ ws) (ds ++ es)
  | _, _, _, _, .nil, h => h
  | _, _, _, _, .cons a b, h => .cons a (OdAll.app b h)
def spPut : Sp := fun vs H Q _ => ∃ (a : Addr) (xs : List V) (n : Nat) (v : V), vs = [.ref a, .int (n : Nat), v] ∧ H a = some (.tup xs) ∧ n < xs.length ∧ xs.length ≤ 1000 ∧
  ∀ (p : Addr) (H' : Hp), Same H H' → H' p = some (.tup (xs.take n ++ [v] ++ xs.drop (n + 1))) → Q (.ref p) H'
section
variable {P : Program} {w : World} {K : PySem.W.Frag} {mg : Str → Option Value} {base : Heap}
theorem sc_put : FnScope ["row", "place", "value"] ["row", "place", "value"] (defScope s_put_at) := ⟨rfl, rfl, rfl, by decide +kernel, rfl, by decide +kernel, by decide +kernel⟩
theorem ok_put (T : D K mg) : FnOk P w K mg base CX0 1 T.f_put_at T.d_put_at ["row", "place", "value"] spPut := by
  refine T.U_put_at.ok sc_put (fun vs H Q E h => ?_) (fun cdv A outer s H vs Q E hr h => ?_)
  · obtain ⟨a, xs, n, v, rfl, _⟩ := h
    rfl
  · obtain ⟨a, xs, n, v, rfl, e, hn, hl, k⟩ := h
    refine ⟨_, pss_one (ps_ret (pe_op op_catA (pe_op op_catA (pe_slice sl_tupA (pv 0) po_none (po_some (pv 1))) (pe_tup (pa_cons (pv 2) pa_nil))) (pe_slice sl_tupA (pv 0) (po_some (pe_op op_add (pv 1) pe_int)) po_none))), ?_⟩
    exact splice (fun H' Q' q => ⟨_, rfl, q⟩) (fun H' Q' q => ⟨_, rfl, q⟩) (fun H' Q' q => ⟨_, rfl, q⟩) (fun H' Q' q => ⟨_, rfl, _, _, rfl, rfl, q⟩) e hn hl k
end
end KP

set_option Elab.async false
set_option maxRecDepth 100000
set_option maxHeartbeats 4000000
set_option linter.all false
/-! Ours: written values of any kind. -/
namespace KP
open PySem PySem.Spec PyProof.Rows L2 Gr GxR
/-- the heap without some addresses -/
def hide (H : Hp) (ls : List Addr) : Hp := fun a => if a ∈ ls then none else H a
theorem hide_same (H : Hp) (ls : List Addr) : Same (hide H ls) H := fun a o e => by
  unfold hide at e
  split at e
  · cases e
  · exact e
theorem same_hide {H H' : Hp} (ls : List Addr) (s : Same H H') : Same (hide H ls) (hide H' ls) := fun a o e => by
  unfold hide at e ⊢
  split at e
  · cases e
  · rename_i n
    rw [if_neg n]
    exact s _ _ e
theorem hide_at {H : Hp} {ls : List Addr} {a : Addr} {o : HO} (e : H a = some o) (n : a ∉ ls) : hide H ls a = some o := by
  unfold hide
  rw [if_neg n]
  exact e
theorem not_hidden {H : Hp} {ls : List Addr} (h : ∀ l ∈ ls, H l ≠ none) {a : Addr} (e : H a = none) : a ∉ ls := fun q => h a q e
def Lit (te : TE) (d : PyData) : Prop := ∀ (ls : List Addr) (σ : L2.St) (H : Hp) (Q : VK), (∀ l ∈ ls, H l ≠ none) → (∀ v H', Same H H' → Od (hide H' ls) v d → Q v H') → te σ H Q
def Lits (ta : TA) (ds : List PyData) : Prop := ∀ (ls : List Addr) (σ : L2.St) (H : Hp) (Q : List V → Hp → Prop), (∀ l ∈ ls, H l ≠ none) → (∀ vs H', Same H H' → OdAll (hide H' ls) vs ds → Q vs H') → ta σ H Q
theorem keep_ls {H H' : Hp} {ls : List Addr} (h : ∀ l ∈ ls, H l ≠ none) (s : Same H H') : ∀ l ∈ ls, H' l ≠ none := fun l hl q => by
  cases e : H l with
  | none => exact h l hl e
  | some o => rw [s _ _ e] at q; cases q
theorem lit_int (i : Int) : Lit (tC (.int i)) (.int i) := fun _ _ _ _ _ k => k _ _ (.refl _) (.int i)
theorem lit_str (x : Str) : Lit (tC (.str x)) (.str x) := fun _ _ _ _ _ k => k _ _ (.refl _) (.str x)
theorem lit_bl (b : Bool) : Lit (tC (.bl b)) (.bool b) := fun _ _ _ _ _ k => k _ _ (.refl _) (.bl b)
theorem lit_non : Lit (tC .non) .none := fun _ _ _ _ _ k => k _ _ (.refl _) .non
theorem lits_nil : Lits tNil [] := fun _ _ _ _ _ k => k _ _ (.refl _) .nil
theorem lits_cons {te : TE} {ta : TA} {d : PyData} {ds : List PyData} (h1 : Lit te d) (h2 : Lits ta ds) : Lits (tCons te ta) (d :: ds) := fun ls σ H Q hl k =>
  h1 ls σ H _ hl fun v H1 s1 o1 => h2 ls σ H1 _ (keep_ls hl s1) fun vs H2 s2 o2 => k _ _ (s1.trans s2) (.cons (o1.same (same_hide ls s2)) o2)
theorem lit_tup {ta : TA} {ds : List PyData} (h : Lits ta ds) (n : ds.length ≤ 60) : Lit (tTup ta) (.tuple ds) := fun ls σ H Q hl k =>
  h ls σ H _ hl fun vs H1 s1 o1 => ⟨by have := o1.len; have mz : 5000 ≤ sizeLine := by decide
                                       omega, fun p hp => k _ _ (s1.trans (same_upd hp)) (.tup (hide_at upd_same (not_hidden (keep_ls hl s1) hp)) (o1.same (same_hide ls (same_upd hp))))⟩
theorem lit_lst {ta : TA} {ds : List PyData} (h : Lits ta ds) (n : ds.length ≤ 60) : Lit (tLst ta) (.list ds) := fun ls σ H Q hl k =>
  h ls σ H _ hl fun vs H1 s1 o1 => ⟨by have := o1.len; have mz : 5000 ≤ sizeLine := by decide
                                       omega, fun p hp => k _ _ (s1.trans (same_upd hp)) (.lst (hide_at upd_same (not_hidden (keep_ls hl s1) hp)) (o1.same (same_hide ls (same_upd hp))))⟩
theorem lit_d0 : Lit tDNewK (.dict []) := fun ls σ H Q hl k p hp => k _ _ (same_upd hp) (.dic (hide_at upd_same (not_hidden hl hp)) .nil .nil)
theorem lit_dx : Lit (tDisp [(tC (.str "x"), tC (.int 1))]) (.dict [(.str "x", .int 1)]) := fun ls σ H Q hl k p hp => by
  refine ⟨upd_same, [(Sum.inr "x", .int 1)], rfl, by decide, ?_⟩
  have e : upd (upd H p (.dK [])) p (.dK (mergeK [] [(Sum.inr "x", .int 1)])) = upd H p (.dK [(Sum.inr "x", .int 1)]) := by
    funext b
    unfold upd
    by_cases h : b = p <;> simp [h] <;> rfl
  rw [e]
  exact k _ _ (same_upd hp) (.dic (hide_at upd_same (not_hidden hl hp)) (.cons (.str _) .nil) (.cons (.int _) .nil))
end KP

set_option Elab.async false
set_option maxRecDepth 100000
set_option maxHeartbeats 4000000
set_option linter.all false
/-! Ours: the law's odd values. -/
namespace KP
open PySem PySem.Spec PyProof.Rows L2 Gr GxR
def odd0 : List PyData := [.none, .bool true, .bool false, .int (-1), .int 0, .int 1, .int 2, .int 13, .int (10 ^ 31), .str "", .str "x", .str "/", .str "/a", .str "a/", .str "abc", .str "*", .str "$", .str "/$a", .str "A", .str " "]
def odd1 : List PyData := [.tuple [], .tuple [.int 1], .tuple [.int 1, .int 2], .tuple [.int 0, .int 1], .tuple [.str "bar"], .tuple [.str "bar", .str "/"], .list [], .list [.int 1], .list [.str "/"], .dict [], .dict [(.str "x", .int 1)], .tuple [.none], .tuple [.str "/", .str "/a"]]
def odd2 : List PyData := [.tuple [.tuple [.int 1, .int 2]], .tuple [.tuple [.int 2, .int 1], .int 3], .tuple [.tuple [.str "bar", .str "/"]], .tuple [.tuple [.str "bar", .str "/"], .none], .tuple [.tuple [], .tuple []], .tuple [.tuple [], .tuple [.int 1]], .tuple [.tuple [], .tuple [.int 0]]]
def odd3 : List PyData := [.tuple [.bool true, .int 1], .tuple [.int 1, .bool true], .tuple [.tuple [.bool true, .int 2]], .tuple [.tuple [], .tuple [.bool true]], .list [.tuple [.str "let", .str "/"]], .list [.tuple [.int 1, .int 2]], .tuple [.tuple [.str "a"], .tuple [], .tuple [], .tuple [.int 1]]]
def oddAll : List PyData := odd0 ++ odd1 ++ odd2 ++ odd3
def smallB : PyData → Bool
  | .tuple [.int _, .int b] => decide (b ≤ 300)
  | _ => true
def goodB : PyData → Bool
  | .str z => decide (z.length ≤ 1000) && z.cps.toList.all fun c => decide (c < 1114112)
  | _ => true
def okB (d : PyData) : Bool := smallB d && (goodB d && (d.showable && (decide (d.depth ≤ 6) && decide (d.shown.length ≤ 100))))
theorem odd_ok : oddAll.all okB = true := by decide +kernel
theorem lit_neg1 : Lit (tUn (rU fun i => V.int (-i)) (tC (.int 1))) (.int (-1)) := fun _ _ _ _ _ k => ⟨_, rfl, k _ _ (.refl _) (.int _)⟩
theorem lit_pow : Lit (tOp (rI CPow fun i j => V.int (i ^ j.toNat)) (tC (.int 10)) (tC (.int 31))) (.int (10 ^ 31)) := fun _ _ _ _ _ k => ⟨_, _, rfl, rfl, ⟨by decide, by decide, by decide⟩, k _ _ (.refl _) (.int _)⟩
/-- a list that grows at l, a well at p -/
structure OI (H0 H : Hp) (p l : Addr) (ls : List Addr) (vs : List V) (ds : List PyData) : Prop where
  at' : H l = some (.lst vs)
  w : Well H p
  b : But H0 H p
  o : OdAll (hide H (l :: p :: ls)) vs ds
  n : l ≠ p
  f : H0 l = none
  m : ∀ x ∈ ls, H0 x ≠ none
theorem OI.lsn {H0 H : Hp} {p l : Addr} {ls : List Addr} {vs : List V} {ds : List PyData} (h : OI H0 H p l ls vs ds) : ∀ x ∈ l :: p :: ls, H x ≠ none := fun x hx q => by
  have ep : H p ≠ none := fun z => by
    obtain ⟨_, _, _, ew⟩ := h.w
    rw [ew] at z; cases z
  rcases List.mem_cons.mp hx with e | e
  · rw [e, h.at'] at q; cases q
  · rcases List.mem_cons.mp e with e | e
    · exact ep (e ▸ q)
    · cases e0 : H0 x with
      | none => exact h.m x e e0
      | some o =>
        by_cases z : x = p
        · exact ep (z ▸ q)
        · rw [h.b x o e0 z] at q; cases q
theorem OI.same {H0 H H' : Hp} {p l : Addr} {ls : List Addr} {vs : List V} {ds : List PyData} (h : OI H0 H p l ls vs ds) (s : Same H H') : OI H0 H' p l ls vs ds :=
  ⟨s _ _ h.at', (let ⟨a, b, c, e⟩ := h.w; ⟨a, b, c, s _ _ e⟩), fun x o e n => s _ _ (h.b x o e n), h.o.same (same_hide _ s), h.n, h.f, h.m⟩
theorem OI.ext {H0 H : Hp} {p l : Addr} {ls : List Addr} {vs ws : List V} {ds es : List PyData} (h : OI H0 H p l ls vs ds) (o : OdAll (hide H (l :: p :: ls)) ws es) : OI H0 (upd H l (.lst (vs ++ ws))) p l ls (vs ++ ws) (ds ++ es) := by
  have e : hide (upd H l (.lst (vs ++ ws))) (l :: p :: ls) = hide H (l :: p :: ls) := by
    funext a
    unfold hide
    by_cases q : a ∈ l :: p :: ls
    · rw [if_pos q, if_pos q]
    · rw [if_neg q, if_neg q, upd_ne]
      exact fun z => q (z ▸ List.mem_cons_self)
  refine ⟨upd_same, (let ⟨a, b, c, ew⟩ := h.w; ⟨a, b, c, (upd_ne (Ne.symm h.n)).trans ew⟩), fun x o q n => ?_, ?_, h.n, h.f, h.m⟩
  · rw [upd_ne (fun z => by rw [z, h.f] at q; cases q)]
    exact h.b x o q n
  · rw [e]
    exact h.o.app o
theorem seq_lst {ta : TA} {ds : List PyData} {i : Nat} {rest : TS} {E : Ends} {σ : L2.St} {H : Hp} {ls : List Addr} (L : Lits ta ds) (hw : ∀ l ∈ ls, H l ≠ none) (hn : ds.length ≤ 1000)
    (k : ∀ vs H1 l, vs.length = ds.length → Same H H1 → OdAll (hide H1 ls) vs ds → H1 l = none → rest E (σ.set i (some (.ref l))) (upd H1 l (.lst vs))) : tSeq (tAsg (tLst ta) (gName i)) rest E σ H := by
  have mz : 5000 ≤ sizeLine := by decide
  exact L ls σ H _ hw fun vs H1 s1 o => ⟨by have := o.len; omega, fun l hl => k vs H1 l o.len s1 o hl⟩
theorem seq_ext {K : PySem.W.Frag} {ta : TA} {ds es : List PyData} {rest : TS} {E : Ends} {σ : L2.St} {H0 H : Hp} {p l : Addr} {ls : List Addr} {vs : List V} (L : Lits ta es) (hσ : σ[1]? = some (some (.ref l))) (h : OI H0 H p l ls vs ds) (n : vs.length + es.length ≤ 1000)
    (k : ∀ ws H1, ws.length = es.length → OI H0 H1 p l ls (vs ++ ws) (ds ++ es) → rest E σ H1) : tSeq (tDrop (tBM K "list" rExtend (tVar 1) (tCons (tLst ta) tNil))) rest E σ H := by
  have mz : 5000 ≤ sizeLine := by decide
  refine ⟨_, hσ, .inl ⟨rfl, _, SqL.of h.at'⟩, ?_⟩
  refine L (l :: p :: ls) _ _ _ h.lsn fun ws Ha s o => ⟨by have := o.len; omega, fun b hb => ?_⟩
  have j := (h.same s).same (same_upd (o := HO.lst ws) hb)
  refine ⟨l, b, _, _, rfl, rfl, j.at', upd_same, by have := o.len; omega, ?_⟩
  exact k ws _ o.len (j.ext (o.same (same_hide _ (same_upd hb))))
def spOdd : Sp := fun vs H Q _ => ∃ (p : Addr) (ls : List Addr), vs = [.ref p] ∧ Well H p ∧ (∀ x ∈ ls, H x ≠ none) ∧ ∀ v d H', But H H' p → Well H' p → Od (hide H' (p :: ls)) v d → okB d = true → Q v H'
theorem OdAll.at {H : Hp} : ∀ {vs : List V} {ds : List PyData}, OdAll H vs ds → ∀ {i : Nat} {v : V}, vs[i]? = some v → ∃ d, d ∈ ds ∧ Od H v d
  | _, _, .nil, i, v, h => by cases h
  | _, _, .cons a b, 0, v, h => ⟨_, List.mem_cons_self, by cases h; exact a⟩
  | _, _, .cons a b, i + 1, v, h => by
    obtain ⟨d, hd, o⟩ := OdAll.at b h
    exact ⟨d, List.mem_cons_of_mem _ hd, o⟩
section
variable {P : Program} {w : World} {K : PySem.W.Frag} {mg : Str → Option Value} {base : Heap}
theorem sc_odd : FnScope ["_law_well_here", "_law_some"] ["_law_well_here"] (defScope s_l_odd) := ⟨rfl, rfl, rfl, by decide +kernel, rfl, by decide +kernel, by decide +kernel⟩
theorem ok_odd (T : D K mg) : FnOk P w K mg base CX0 3 T.f_l_odd T.d_l_odd ["_law_well_here"] spOdd := by
  refine T.U_l_odd.ok sc_odd (fun vs H Q E h => ?_) (fun cdv A outer s H vs Q E hr h => ?_)
  · obtain ⟨p, ls, rfl, _⟩ := h
    rfl
  · obtain ⟨p, ls, rfl, hp, hls, k⟩ := h
    have nd := sc_odd.nd
    have mz : 5000 ≤ sizeLine := by decide
    refine ⟨_, pss_cons (ps_set (i := 1) nd rfl (.inl rfl) (pe_lst (pa_cons pe_non (pa_cons pe_bl (pa_cons pe_bl (pa_cons (pe_un un_neg pe_int) (pa_cons pe_int (pa_cons pe_int (pa_cons pe_int (pa_cons pe_int (pa_cons (pe_op op_pow pe_int pe_int) (pa_cons pe_str (pa_cons pe_str (pa_cons pe_str (pa_cons pe_str (pa_cons pe_str (pa_cons pe_str (pa_cons pe_str (pa_cons pe_str (pa_cons pe_str (pa_cons pe_str (pa_cons pe_str pa_nil))))))))))))))))))))))
      (pss_cons (ps_expr (pe_bm PySem.F.plainAttrs_list PySem.F.slot_list_extend PySem.F.type_list_extend mt_extend (pv 1) (pa_cons (pe_lst (pa_cons (pe_tup pa_nil) (pa_cons (pe_tup (pa_cons pe_int pa_nil)) (pa_cons (pe_tup (pa_cons pe_int (pa_cons pe_int pa_nil))) (pa_cons (pe_tup (pa_cons pe_int (pa_cons pe_int pa_nil))) (pa_cons (pe_tup (pa_cons pe_str pa_nil)) (pa_cons (pe_tup (pa_cons pe_str (pa_cons pe_str pa_nil))) (pa_cons (pe_lst pa_nil) (pa_cons (pe_lst (pa_cons pe_int pa_nil)) (pa_cons (pe_lst (pa_cons pe_str pa_nil)) (pa_cons pe_dnewK (pa_cons (pe_disp (pps_cons pe_str pe_int pps_nil) (by rfl) (by rfl) (by decide) (by decide)) (pa_cons (pe_tup (pa_cons pe_non pa_nil)) (pa_cons (pe_tup (pa_cons pe_str (pa_cons pe_str pa_nil))) pa_nil)))))))))))))) pa_nil)))
      (pss_cons (ps_expr (pe_bm PySem.F.plainAttrs_list PySem.F.slot_list_extend PySem.F.type_list_extend mt_extend (pv 1) (pa_cons (pe_lst (pa_cons (pe_tup (pa_cons (pe_tup (pa_cons pe_int (pa_cons pe_int pa_nil))) pa_nil)) (pa_cons (pe_tup (pa_cons (pe_tup (pa_cons pe_int (pa_cons pe_int pa_nil))) (pa_cons pe_int pa_nil))) (pa_cons (pe_tup (pa_cons (pe_tup (pa_cons pe_str (pa_cons pe_str pa_nil))) pa_nil)) (pa_cons (pe_tup (pa_cons (pe_tup (pa_cons pe_str (pa_cons pe_str pa_nil))) (pa_cons pe_non pa_nil))) (pa_cons (pe_tup (pa_cons (pe_tup pa_nil) (pa_cons (pe_tup pa_nil) pa_nil))) (pa_cons (pe_tup (pa_cons (pe_tup pa_nil) (pa_cons (pe_tup (pa_cons pe_int pa_nil)) pa_nil))) (pa_cons (pe_tup (pa_cons (pe_tup pa_nil) (pa_cons (pe_tup (pa_cons pe_int pa_nil)) pa_nil))) pa_nil)))))))) pa_nil)))
      (pss_cons (ps_expr (pe_bm PySem.F.plainAttrs_list PySem.F.slot_list_extend PySem.F.type_list_extend mt_extend (pv 1) (pa_cons (pe_lst (pa_cons (pe_tup (pa_cons pe_bl (pa_cons pe_int pa_nil))) (pa_cons (pe_tup (pa_cons pe_int (pa_cons pe_bl pa_nil))) (pa_cons (pe_tup (pa_cons (pe_tup (pa_cons pe_bl (pa_cons pe_int pa_nil))) pa_nil)) (pa_cons (pe_tup (pa_cons (pe_tup pa_nil) (pa_cons (pe_tup (pa_cons pe_bl pa_nil)) pa_nil))) (pa_cons (pe_lst (pa_cons (pe_tup (pa_cons pe_str (pa_cons pe_str pa_nil))) pa_nil)) (pa_cons (pe_lst (pa_cons (pe_tup (pa_cons pe_int (pa_cons pe_int pa_nil))) pa_nil)) (pa_cons (pe_tup (pa_cons (pe_tup (pa_cons pe_str pa_nil)) (pa_cons (pe_tup pa_nil) (pa_cons (pe_tup pa_nil) (pa_cons (pe_tup (pa_cons pe_int pa_nil)) pa_nil))))) pa_nil)))))))) pa_nil)))
      (pss_one (ps_ret (pe_call (ok_l_one T) hr rfl T.g_l_one T.U_l_one.kp T.b_l_one .nil pass0 (pa_cons (pv 0) (pa_cons (pv 1) pa_nil)))))))), ?_⟩
    have hw : ∀ x ∈ p :: ls, H x ≠ none := fun x hx q => by
      rcases List.mem_cons.mp hx with z | z
      · rw [z] at q
        obtain ⟨_, _, _, e⟩ := hp
        rw [e] at q
        cases q
      · exact hls x z q
    have L0 : Lits _ odd0 := (lits_cons lit_non (lits_cons (lit_bl _) (lits_cons (lit_bl _) (lits_cons lit_neg1 (lits_cons (lit_int _) (lits_cons (lit_int _) (lits_cons (lit_int _) (lits_cons (lit_int _) (lits_cons lit_pow (lits_cons (lit_str _) (lits_cons (lit_str _) (lits_cons (lit_str _) (lits_cons (lit_str _) (lits_cons (lit_str _) (lits_cons (lit_str _) (lits_cons (lit_str _) (lits_cons (lit_str _) (lits_cons (lit_str _) (lits_cons (lit_str _) (lits_cons (lit_str _) lits_nil))))))))))))))))))))
    have L1 : Lits _ odd1 := (lits_cons (lit_tup lits_nil (by decide)) (lits_cons (lit_tup (lits_cons (lit_int _) lits_nil) (by decide)) (lits_cons (lit_tup (lits_cons (lit_int _) (lits_cons (lit_int _) lits_nil)) (by decide)) (lits_cons (lit_tup (lits_cons (lit_int _) (lits_cons (lit_int _) lits_nil)) (by decide)) (lits_cons (lit_tup (lits_cons (lit_str _) lits_nil) (by decide)) (lits_cons (lit_tup (lits_cons (lit_str _) (lits_cons (lit_str _) lits_nil)) (by decide)) (lits_cons (lit_lst lits_nil (by decide)) (lits_cons (lit_lst (lits_cons (lit_int _) lits_nil) (by decide)) (lits_cons (lit_lst (lits_cons (lit_str _) lits_nil) (by decide)) (lits_cons lit_d0 (lits_cons lit_dx (lits_cons (lit_tup (lits_cons lit_non lits_nil) (by decide)) (lits_cons (lit_tup (lits_cons (lit_str _) (lits_cons (lit_str _) lits_nil)) (by decide)) lits_nil)))))))))))))
    have L2 : Lits _ odd2 := (lits_cons (lit_tup (lits_cons (lit_tup (lits_cons (lit_int _) (lits_cons (lit_int _) lits_nil)) (by decide)) lits_nil) (by decide)) (lits_cons (lit_tup (lits_cons (lit_tup (lits_cons (lit_int _) (lits_cons (lit_int _) lits_nil)) (by decide)) (lits_cons (lit_int _) lits_nil)) (by decide)) (lits_cons (lit_tup (lits_cons (lit_tup (lits_cons (lit_str _) (lits_cons (lit_str _) lits_nil)) (by decide)) lits_nil) (by decide)) (lits_cons (lit_tup (lits_cons (lit_tup (lits_cons (lit_str _) (lits_cons (lit_str _) lits_nil)) (by decide)) (lits_cons lit_non lits_nil)) (by decide)) (lits_cons (lit_tup (lits_cons (lit_tup lits_nil (by decide)) (lits_cons (lit_tup lits_nil (by decide)) lits_nil)) (by decide)) (lits_cons (lit_tup (lits_cons (lit_tup lits_nil (by decide)) (lits_cons (lit_tup (lits_cons (lit_int _) lits_nil) (by decide)) lits_nil)) (by decide)) (lits_cons (lit_tup (lits_cons (lit_tup lits_nil (by decide)) (lits_cons (lit_tup (lits_cons (lit_int _) lits_nil) (by decide)) lits_nil)) (by decide)) lits_nil)))))))
    have L3 : Lits _ odd3 := (lits_cons (lit_tup (lits_cons (lit_bl _) (lits_cons (lit_int _) lits_nil)) (by decide)) (lits_cons (lit_tup (lits_cons (lit_int _) (lits_cons (lit_bl _) lits_nil)) (by decide)) (lits_cons (lit_tup (lits_cons (lit_tup (lits_cons (lit_bl _) (lits_cons (lit_int _) lits_nil)) (by decide)) lits_nil) (by decide)) (lits_cons (lit_tup (lits_cons (lit_tup lits_nil (by decide)) (lits_cons (lit_tup (lits_cons (lit_bl _) lits_nil) (by decide)) lits_nil)) (by decide)) (lits_cons (lit_lst (lits_cons (lit_tup (lits_cons (lit_str _) (lits_cons (lit_str _) lits_nil)) (by decide)) lits_nil) (by decide)) (lits_cons (lit_lst (lits_cons (lit_tup (lits_cons (lit_int _) (lits_cons (lit_int _) lits_nil)) (by decide)) lits_nil) (by decide)) (lits_cons (lit_tup (lits_cons (lit_tup (lits_cons (lit_str _) lits_nil) (by decide)) (lits_cons (lit_tup lits_nil (by decide)) (lits_cons (lit_tup lits_nil (by decide)) (lits_cons (lit_tup (lits_cons (lit_int _) lits_nil) (by decide)) lits_nil)))) (by decide)) lits_nil)))))))
    refine seq_lst (ls := p :: ls) L0 hw (by decide) fun vs0 H1 l n0 s1 o0 hl => ?_
    have n0 : vs0.length = 20 := n0
    have nlp : l ≠ p := fun e => keep_ls hw s1 p List.mem_cons_self (e ▸ hl)
    have i1 : OI H (upd H1 l (.lst vs0)) p l ls vs0 odd0 := by
      refine ⟨upd_same, (let ⟨a, b, c, e⟩ := hp; ⟨a, b, c, same_upd hl _ _ (s1 _ _ e)⟩), fun x o e _ => same_upd hl _ _ (s1 _ _ e), ?_, nlp, ?_, hls⟩
      · refine o0.same fun a o e => ?_
        have e' := hide_same _ _ _ _ e
        have na : a ∉ p :: ls := fun q => by
          unfold hide at e
          rw [if_pos q] at e
          cases e
        refine hide_at (same_upd hl _ _ e') fun q => ?_
        rcases List.mem_cons.mp q with z | z
        · rw [z, hl] at e'; cases e'
        · exact na z
      · cases e : H l with
        | none => rfl
        | some o => rw [s1 _ _ e] at hl; cases hl

    refine seq_ext L1 rfl i1 (by show (vs0).length + 13 ≤ 1000; omega) fun vs1 Ha1 m1 i2 => ?_
    have m1 : vs1.length = 13 := m1
    refine seq_ext L2 rfl i2 (by show (vs0 ++ vs1).length + 7 ≤ 1000; simp only [List.length_append]; omega) fun vs2 Ha2 m2 i3 => ?_
    have m2 : vs2.length = 7 := m2
    refine seq_ext L3 rfl i3 (by show (vs0 ++ vs1 ++ vs2).length + 7 ≤ 1000; simp only [List.length_append]; omega) fun vs3 Ha3 m3 i4 => ?_
    have m3 : vs3.length = 7 := m3
    refine ⟨_, rfl, _, rfl, p, l, _, rfl, i4.w, i4.at', nlp, by simp only [List.length_append]; omega, by simp only [List.length_append]; omega, fun j v H9 hv w9 b9 => ?_⟩
    obtain ⟨d, hd, od⟩ := OdAll.at i4.o hv
    refine k v d H9 (i4.b.trans b9) w9 (od.same fun a o e => ?_) (List.all_eq_true.mp odd_ok d (by unfold oddAll; exact hd))
    have e' := hide_same _ _ _ _ e
    have na : a ∉ p :: ls := fun q => by
      unfold hide at e
      rw [if_pos (List.mem_cons_of_mem _ q)] at e
      cases e
    exact hide_at (b9 _ _ e' fun z => na (z ▸ List.mem_cons_self)) na
end
end KP

set_option Elab.async false
set_option maxRecDepth 100000
set_option maxHeartbeats 4000000
set_option linter.all false
/-! Ours: the law's texts. -/
namespace KP
open PySem PySem.Spec PyProof.Rows L2 Gr GxR
/-- a text of plain signs -/
def Pl (n : Nat) (t : Str) : Prop := t.length ≤ n ∧ ∀ c ∈ t.cps.toList, c < 128
theorem Pl.app {n m : Nat} {a b : Str} (h1 : Pl n a) (h2 : Pl m b) : Pl (n + m) (a ++ b) := by
  refine ⟨by rw [PySem.Str.length_append]; have := h1.1; have := h2.1; omega, fun c hc => ?_⟩
  rw [tx_app] at hc
  rcases List.mem_append.mp hc with q | q
  · exact h1.2 c q
  · exact h2.2 c q
theorem Pl.one {c : Nat} (h : c < 128) : Pl 1 ⟨#[c]⟩ := ⟨Nat.le_refl _, fun d hd => by rw [List.mem_singleton.mp hd]; exact h⟩
theorem Pl.mono {n m : Nat} {a : Str} (h : Pl n a) (l : n ≤ m) : Pl m a := ⟨Nat.le_trans h.1 l, h.2⟩
theorem Pl.to {n k : Nat} {a : Str} (h : Pl n a) : Pl n (cutS a none (some (k : Int))) := ⟨Nat.le_trans (cutS_length _ _ _) h.1, fun c hc => h.2 c (by rw [cut_to] at hc; exact List.mem_of_mem_take hc)⟩
theorem Pl.from {n k : Nat} {a : Str} (h : Pl n a) : Pl n (cutS a (some (k : Int)) none) := ⟨Nat.le_trans (cutS_length _ _ _) h.1, fun c hc => h.2 c (by rw [cut_from] at hc; exact List.mem_of_mem_drop hc)⟩
theorem ints_in {l : List Int} {j : Nat} {v : V} (h : (l.map V.int)[j]? = some v) : ∃ n ∈ l, v = .int n := by
  rw [List.getElem?_map] at h
  cases q : l[j]? with
  | none => rw [q] at h; cases h
  | some n =>
    rw [q] at h
    exact ⟨n, List.mem_of_getElem? q, (Option.some.inj h).symm⟩
theorem strs_in {l : List Str} {j : Nat} {v : V} (h : (l.map V.str)[j]? = some v) : ∃ s ∈ l, v = .str s := by
  rw [List.getElem?_map] at h
  cases q : l[j]? with
  | none => rw [q] at h; cases h
  | some n =>
    rw [q] at h
    exact ⟨n, List.mem_of_getElem? q, (Option.some.inj h).symm⟩
def odds : Str := " !#$&*+,-./09:;?@AZ^_az~"
theorem odds_small : ∀ c ∈ odds.cps.toList, c < 128 := by decide +kernel
def spText : Sp := fun vs H Q _ => ∃ (p : Addr) (z : Str), vs = [.ref p, .str z] ∧ Well H p ∧ 0 < z.length ∧ z.length ≤ 1000 ∧ (∀ c ∈ z.cps.toList, c < 128) ∧
  ∀ (t : Str) (H' : Hp), But H H' p → Well H' p → Pl 20 t → Q (.str t) H'
theorem well_ne {H : Hp} {p a : Addr} (w : Well H p) (h : H a = none) : a ≠ p := fun e => by
  obtain ⟨_, _, _, ew⟩ := w
  rw [e, ew] at h
  cases h
theorem Well.same {H H' : Hp} {p : Addr} (w : Well H p) (s : Same H H') : Well H' p := let ⟨a, b, c, e⟩ := w; ⟨a, b, c, s _ _ e⟩
theorem But.same {H H' : Hp} {p : Addr} (s : Same H H') : But H H' p := fun b o e _ => s b o e
theorem end_pl {t : Str} (h : t ∈ (["", "", "$"] : List Str)) : Pl 1 t := by
  simp only [List.mem_cons, List.not_mem_nil, or_false] at h
  rcases h with rfl | rfl | rfl
  · exact ⟨by decide +kernel, by decide +kernel⟩
  · exact ⟨by decide +kernel, by decide +kernel⟩
  · exact ⟨by decide +kernel, by decide +kernel⟩
section
variable {P : Program} {w : World} {K : PySem.W.Frag} {mg : Str → Option Value} {base : Heap}
theorem sc_text : FnScope ["_law_well_here", "_law_signs_here", "_law_text_here", "_law_turn", "_law_at"] ["_law_well_here", "_law_signs_here"] (defScope s_l_text) := ⟨rfl, rfl, rfl, by decide +kernel, rfl, by decide +kernel, by decide +kernel⟩
theorem ok_text (T : D K mg) : FnOk P w K mg base CX0 3 T.f_l_text T.d_l_text ["_law_well_here", "_law_signs_here"] spText := by
  refine T.U_l_text.ok sc_text (fun vs H Q E h => ?_) (fun cdv A outer s H vs Q E hr h => ?_)
  · obtain ⟨p, z, rfl, _⟩ := h
    rfl
  · obtain ⟨p, z, rfl, hp, z0, z1, zc, k⟩ := h
    have nd := sc_text.nd
    have mz : 5000 ≤ sizeLine := by decide
    refine ⟨_, pss_cons (ps_set (i := 2) nd rfl (.inl rfl) (pe_call (ok_l_one T) hr rfl T.g_l_one T.U_l_one.kp T.b_l_one .nil pass0 (pa_cons (pv 0) (pa_cons (pe_lst (pa_cons pe_str (pa_cons pe_str (pa_cons pe_str pa_nil)))) pa_nil))))
      (pss_cons (ps_for PassesOwn.never rfl (pi_range1 rfl T.range (pa_cons (pe_call (ok_l_one T) hr rfl T.g_l_one T.U_l_one.kp T.b_l_one .nil pass0 (pa_cons (pv 0) (pa_cons (pe_lst (pa_cons pe_int (pa_cons pe_int (pa_cons pe_int (pa_cons pe_int (pa_cons pe_int (pa_cons pe_int (pa_cons pe_int (pa_cons pe_int pa_nil))))))))) pa_nil))) pa_nil)) (pg_name (i := 3) nd rfl (.inl rfl))
        (pss_one (ps_set (i := 2) nd rfl (.inl rfl) (pe_op op_add_str (pv 2) (pe_call (ok_l_oneS T) hr rfl T.g_l_one T.U_l_one.kp T.b_l_one .nil pass0 (pa_cons (pv 0) (pa_cons (pv 1) pa_nil)))))))
      (pss_cons (ps_if (pt_cmpR op_eq (pe_call (ok_l_pick T) (hr.mono (by decide)) rfl T.g_l_pick T.U_l_pick.kp T.b_l_pick .nil pass0 (pa_cons (pv 0) (pa_cons pe_int pa_nil))) pe_int (nomark _))
        (pss_cons (ps_set (i := 4) nd rfl (.inl rfl) (pe_call (ok_l_pick T) (hr.mono (by decide)) rfl T.g_l_pick T.U_l_pick.kp T.b_l_pick .nil pass0 (pa_cons (pv 0) (pa_cons (pe_op op_add (pe_callB call_len_str (by rfl) T.len PySem.boot_len (pa_cons (pv 2) pa_nil)) pe_int) pa_nil))))
        (pss_one (ps_set (i := 2) nd rfl (.inl rfl) (pe_op op_add_str (pe_op op_add_str (pe_slice sl_str (pv 2) po_none (po_some (pv 4))) (pe_call (ok_l_oneS T) hr rfl T.g_l_one T.U_l_one.kp T.b_l_one .nil pass0 (pa_cons (pv 0) (pa_cons pe_str pa_nil)))) (pe_slice sl_str (pv 2) (po_some (pv 4)) po_none)))))
        (pss_nil))
      (pss_one (ps_ret (pe_op op_add_str (pv 2) (pe_call (ok_l_one T) hr rfl T.g_l_one T.U_l_one.kp T.b_l_one .nil pass0 (pa_cons (pv 0) (pa_cons (pe_lst (pa_cons pe_str (pa_cons pe_str (pa_cons pe_str pa_nil)))) pa_nil)))))))), ?_⟩
    refine ⟨_, rfl, by show 3 ≤ sizeLine; omega, fun l hl => ?_⟩
    have nl := well_ne hp hl
    have s1 := same_upd (o := HO.lst [V.str "", V.str "/", V.str "/"]) hl
    refine ⟨p, l, _, rfl, hp.same s1, upd_same, nl, by show 0 < 3; decide, by show 3 ≤ 1000; decide, fun j v H2 hv w2 b2 => ?_⟩
    have c2 : But H H2 p := (But.same s1).trans b2
    obtain ⟨t0, ht0, rfl⟩ := strs_in (l := ["", "/", "/"]) hv
    have p0 : Pl 1 t0 := by
      simp only [List.mem_cons, List.not_mem_nil, or_false] at ht0
      rcases ht0 with rfl | rfl | rfl
      · exact ⟨by decide +kernel, by decide +kernel⟩
      · exact ⟨by decide +kernel, by decide +kernel⟩
      · exact ⟨by decide +kernel, by decide +kernel⟩
    refine ⟨_, rfl, by show 8 ≤ sizeLine; omega, fun l2 hl2 => ?_⟩
    have nl2 := well_ne w2 hl2
    have s3 := same_upd (o := HO.lst [V.int 0, V.int 1, V.int 2, V.int 5, V.int 10, V.int 11, V.int 12, V.int 13]) hl2
    refine ⟨p, l2, _, rfl, w2.same s3, upd_same, nl2, by show 0 < 8; decide, by show 8 ≤ 1000; decide, fun j v H4 hv w4 b4 => ?_⟩
    obtain ⟨n, hn, rfl⟩ := ints_in (l := [0, 1, 2, 5, 10, 11, 12, 13]) hv
    have hn2 : 0 ≤ n ∧ n ≤ 13 := by
      simp only [List.mem_cons, List.not_mem_nil, or_false] at hn
      omega
    refine ⟨_, rfl, by omega, by omega, for_range (n := _) (fun i σ H5 => But H H5 p ∧ Well H5 p ∧ ∃ (t : Str) (v3 : Option V), σ = [some (.ref p), some (.str z), some (.str t), v3, none] ∧ Pl (1 + i) t)
      ⟨c2.trans ((But.same s3).trans b4), w4, t0, none, rfl, p0⟩ ?_ ?_⟩
    · rintro i σ H5 hi ⟨b5, w5, t, v3, rfl, pt⟩
      refine ⟨_, rfl, _, rfl, _, rfl, p, z, rfl, w5, z0, z1, fun c H6 hc w6 b6 => ⟨_, _, rfl, rfl, ?_, ?_⟩⟩
      · show t.length + 1 ≤ sizeLine
        have := pt.1
        omega
      · exact ⟨b5.trans b6, w6, _, _, rfl, pt.app (Pl.one (zc c hc))⟩
    · rintro σ H5 ⟨b5, w5, t, v3, rfl, pt⟩
      have pt : Pl 14 t := pt.mono (by omega)
      refine ⟨_, rfl, p, 3, rfl, w5, by decide, by decide, fun y H6 y0 y1 w6 b6 => ⟨rfl, _, rfl, ite2 (fun _ => ?_) (fun _ => ?_)⟩⟩
      · have b6' := b5.trans b6
        have lt := pt.1
        refine ⟨_, rfl, _, rfl, _, rfl, by omega, _, _, rfl, rfl, p, _, rfl, w6, by omega, by omega, fun m H7 m0 m1 w7 b7 => ?_⟩
        obtain ⟨m, rfl⟩ := Int.eq_ofNat_of_zero_le m0
        refine ⟨_, rfl, _, rfl, _, rfl, t, rfl, by omega, _, rfl, p, odds, rfl, w7, by decide +kernel, by decide +kernel, fun c H8 hc w8 b8 => ?_⟩
        have p1 : Pl 14 (cutS t none (some (m : Int))) := pt.to
        have p2 := p1.app (Pl.one (odds_small c hc))
        have p3 : Pl 14 (cutS t (some (m : Int)) none) := pt.from
        have p4 := (p2.app p3)
        have b8' := b6'.trans (b7.trans b8)
        have lp : (cutS t none (some (m : Int)) ++ (⟨#[c]⟩ : Str) ++ cutS t (some (m : Int)) none).length ≤ 15 := by
          have e1 : (cutS t none (some (m : Int))).length + (cutS t (some (m : Int)) none).length ≤ t.length := by
            have q1 : (cutS t none (some (m : Int))).cps.toList.length = min m t.cps.toList.length := by rw [cut_to, List.length_take]
            have q2 : (cutS t (some (m : Int)) none).cps.toList.length = t.cps.toList.length - m := by rw [cut_from, List.length_drop]
            have z1 : (cutS t none (some (m : Int))).cps.toList.length = (cutS t none (some (m : Int))).length := rfl
            have z2 : (cutS t (some (m : Int)) none).cps.toList.length = (cutS t (some (m : Int)) none).length := rfl
            have z3 : t.cps.toList.length = t.length := rfl
            omega
          rw [PySem.Str.length_append, PySem.Str.length_append]
          have : (⟨#[c]⟩ : Str).length = 1 := rfl
          omega
        have p5 : Pl 15 (cutS t none (some (m : Int)) ++ (⟨#[c]⟩ : Str) ++ cutS t (some (m : Int)) none) := ⟨lp, p4.2⟩
        refine ⟨_, _, rfl, rfl, by have := p1.1; show _ + 1 ≤ sizeLine; omega, _, rfl, _, rfl, _, rfl, t, rfl, by omega, _, _, rfl, rfl, by have := p2.1; have := p3.1; omega, ?_⟩
        refine next_of ?_
        dsimp only
        generalize (cutS t none (some (m : Int)) ++ (⟨#[c]⟩ : Str) ++ cutS t (some (m : Int)) none) = u at *
        refine ⟨_, rfl, _, rfl, by show 3 ≤ sizeLine; omega, fun l3 hl3 => ?_⟩
        have nl3 := well_ne w8 hl3
        have s9 := same_upd (o := HO.lst [V.str "", V.str "", V.str "$"]) hl3
        refine ⟨p, l3, _, rfl, w8.same s9, upd_same, nl3, by show 0 < 3; decide, by show 3 ≤ 1000; decide, fun j v H9 hv w9 b9 => ?_⟩
        obtain ⟨te, hte, rfl⟩ := strs_in (l := ["", "", "$"]) hv
        have pe := end_pl hte
        have pq := p5.app pe
        refine ⟨_, _, rfl, rfl, by have := p5.1; have := pe.1; omega, k _ H9 (b8'.trans ((But.same s9).trans b9)) w9 (pq.mono (by omega))⟩
      · have b6' := b5.trans b6
        refine next_of ?_
        dsimp only
        refine ⟨_, rfl, _, rfl, by show 3 ≤ sizeLine; omega, fun l3 hl3 => ?_⟩
        have nl3 := well_ne w6 hl3
        have s9 := same_upd (o := HO.lst [V.str "", V.str "", V.str "$"]) hl3
        refine ⟨p, l3, _, rfl, w6.same s9, upd_same, nl3, by show 0 < 3; decide, by show 3 ≤ 1000; decide, fun j v H9 hv w9 b9 => ?_⟩
        obtain ⟨te, hte, rfl⟩ := strs_in (l := ["", "", "$"]) hv
        have pe := end_pl hte
        have pq := pt.app pe
        refine ⟨_, _, rfl, rfl, by have := pt.1; have := pe.1; omega, k _ H9 (b6'.trans ((But.same s9).trans b9)) w9 (pq.mono (by omega))⟩
end
end KP

set_option Elab.async false
set_option maxRecDepth 100000
set_option maxHeartbeats 1000000
set_option linter.all false
/-! Ours: one value told rightly. -/
namespace KP
open PySem PySem.Spec PyProof.Rows L2 Gr GxR
theorem shown_list_le (ds : List PyData) : (PyData.list ds).shown.length ≤ piled (PyData.shownAll ds) + 2 := by
  rw [PyData.shown_list]
  cases ds with
  | nil => decide +kernel
  | cons d r =>
    have h := join_length_add (PyData.shownAll (d :: r)) (by simp [PyData.shownAll])
    rw [Str.length_append, Str.length_append]
    have e1 : ("[" : Str).length = 1 := by decide +kernel
    have e2 : ("]" : Str).length = 1 := by decide +kernel
    omega
def blV (l : List Bool) : List V := l.map V.bl
def blD (l : List Bool) : PyData := .list (l.map PyData.bool)
theorem dqAll_bl {K : PySem.W.Frag} {H : Hp} : ∀ l : List Bool, DqAll K H (blV l) (l.map PyData.bool)
  | [] => .nil
  | b :: l => .cons (.bl b) (dqAll_bl l)
theorem bl_show (l : List Bool) : PyData.showableAll (l.map PyData.bool) = true ∧ PyData.depthAll (l.map PyData.bool) ≤ 2 ∧ piled (PyData.shownAll (l.map PyData.bool)) ≤ 7 * l.length := by
  induction l with
  | nil => refine ⟨rfl, by simp [PyData.depthAll], by simp [PyData.shownAll, piled_nil]⟩
  | cons b l ih =>
    have h : (PyData.bool b).shown.length ≤ 5 := by cases b <;> decide +kernel
    refine ⟨by simp [PyData.showableAll, PyData.showable, ih.1], ?_, ?_⟩
    · simp only [List.map_cons, PyData.depthAll, PyData.depth]
      have := ih.2.1
      omega
    · simp only [List.map_cons, PyData.shownAll, piled_cons, List.length_cons]
      have := ih.2.2
      omega
theorem bl_facts {l : List Bool} (h : l.length ≤ 60) : (blD l).showable = true ∧ (blD l).depth ≤ 60 ∧ (blD l).shown.length ≤ sizeLine := by
  obtain ⟨a, b, c⟩ := bl_show l
  have h1 := shown_list_le (l.map PyData.bool)
  have mz : 5000 ≤ sizeLine := by decide
  refine ⟨by unfold blD; simp [PyData.showable, a], by unfold blD; simp only [PyData.depth]; omega, by unfold blD; omega⟩
theorem Up.put {K : PySem.W.Frag} {mg : Str → Option Value} {T : D K mg} {H H1 : Hp} {D : Addr} {xs ys : List V} (u : Up T H H1) (n : H D = none) (e : H1 D = some (.lst xs)) : Up T H (upd H1 D (.lst ys)) := by
  obtain ⟨⟨t1, t2, t3⟩, k⟩ := u
  have ne : ∀ {p : Addr}, TabG H1 p → p ≠ D := fun ⟨ps, e1, _⟩ z => by
    rw [z, e] at e1
    cases e1
  have cp : ∀ {p : Addr}, TabG H1 p → TabG (upd H1 D (.lst ys)) p := fun t => let ⟨ps, e1, x⟩ := t; ⟨ps, (upd_ne (ne t)).trans e1, x⟩
  refine ⟨⟨cp t1, cp t2, cp t3⟩, fun x m1 m2 m3 o q => ?_⟩
  rw [upd_ne (ne_of_none q n)]
  exact k x m1 m2 m3 o q
theorem Up.fresh {K : PySem.W.Frag} {mg : Str → Option Value} {T : D K mg} {H H1 : Hp} {a : Addr} (u : Up T H H1) (h : H1 a = none) : H a = none := by
  obtain ⟨⟨⟨p1, e1, _⟩, ⟨p2, e2, _⟩, ⟨p3, e3, _⟩⟩, k⟩ := u
  cases e : H a with
  | none => rfl
  | some o =>
    exfalso
    by_cases n1 : a = T.P_is_path
    · rw [n1, e1] at h; cases h
    by_cases n2 : a = T.P_is_pattern
    · rw [n2, e2] at h; cases h
    by_cases n3 : a = T.P_is_name
    · rw [n3, e3] at h; cases h
    rw [k a n1 n2 n3 o e] at h
    cases h
def spVR {K : PySem.W.Frag} {mg : Str → Option Value} (T : D K mg) : Sp := fun vs H Q _ => ∃ v d, vs = [v] ∧ Od H v d ∧ SmallB d ∧ GoodD d ∧ TT3 T H ∧ ∀ H', Up T H H' → Q (.bl true) H'
def pairsD : List PyData := [.tuple [.int 0, .int 0], .tuple [.int (-1), .int 1], .tuple [.int 1, .int 13], .tuple [.int 2, .int (10 ^ 31)]]
theorem pairs_int : ∀ d ∈ pairsD, ∃ lo hi : Int, d = .tuple [.int lo, .int hi] := fun d h => by
  unfold pairsD at h
  simp only [List.mem_cons, List.not_mem_nil, or_false] at h
  rcases h with rfl | rfl | rfl | rfl <;> exact ⟨_, _, rfl⟩
theorem seq_forlits {K : PySem.W.Frag} {ta : TA} {ds : List PyData} {g : TG} {tb rest : TS} {E : Ends} {σ : L2.St} {H : Hp} (ls : List Addr) (hls : ∀ l ∈ ls, H l ≠ none) (L : Lits ta ds) (hn : ds.length ≤ 1000)
    (k : ∀ vs H' l, vs.length = ds.length → Same H H' → OdAll (hide H' ls) vs ds → H' l = some (.lst vs) → H l = none → tFor (fun σ H R => R (Itl K l) H) g tb { E with nx := rest E } σ H') : tSeq (tFor (iList K (tLst ta)) g tb) rest E σ H := by
  have mz : 5000 ≤ sizeLine := by decide
  unfold tSeq tFor
  unfold tFor at k
  refine L ls σ H _ hls fun vs H1 s o => ⟨by have := o.len; omega, fun l hl => ⟨l, rfl, ⟨_, SqL.of upd_same⟩, k vs _ l o.len (s.trans (same_upd hl)) (o.same (same_hide _ (same_upd hl))) upd_same ?_⟩⟩
  cases e : H l with
  | none => rfl
  | some q => rw [s _ _ e] at hl; cases hl
theorem hide_upd {H : Hp} {ls : List Addr} {l : Addr} {o : HO} (h : l ∈ ls) : hide (upd H l o) ls = hide H ls := by
  funext a
  unfold hide
  by_cases q : a ∈ ls
  · rw [if_pos q, if_pos q]
  · rw [if_neg q, if_neg q, upd_ne]
    exact fun z => q (z ▸ h)
section
variable {P : Program} {w : World} {K : PySem.W.Frag} {mg : Str → Option Value} {base : Heap}
theorem sc_vr : FnScope ["_law_value", "_law_told", "_law_due", "_law_low", "_law_high"] ["_law_value"] (defScope s_l_value_right) := ⟨rfl, rfl, rfl, by decide +kernel, rfl, by decide +kernel, by decide +kernel⟩
theorem ok_vr (T : D K mg) (TB : Tabs base T) (hM : SysM K) : FnQ P w K mg base CX0 4 T.f_l_value_right T.d_l_value_right ["_law_value"] (spVR T) := by
  refine funQ T.U_l_value_right sc_vr (fun vs H Q E h => ?_) (fun cdv A outer s H vs Q E hgu hr h => ?_)
  · obtain ⟨v, d, rfl, _⟩ := h
    rfl
  · obtain ⟨v, d, rfl, hd, hs, hg, hT, k⟩ := h
    have nd := sc_vr.nd
    have hu64 : (A.deeper (envOfC "_law_value_right" (defScope s_l_value_right) s.heap.objs.size T.f_l_value_right cdv)).units + 64 < cLine := hr.units
    have mz : 5000 ≤ sizeLine := by decide
    refine ⟨_, pss_cons (ps_set (i := 1) nd rfl (.inl rfl) (pe_lst (pa_cons (pe_call (ok_whole T) (hr.mono (by decide)) rfl T.g_is_whole T.U_is_whole.kp T.b_is_whole .nil pass0 (pa_cons (pv 0) pa_nil)) (pa_cons (pe_call (ok_frac T) (hr.mono (by decide)) rfl T.g_is_fraction T.U_is_fraction.kp T.b_is_fraction .nil pass0 (pa_cons (pv 0) pa_nil)) (pa_cons (pe_call (ok_is_name T TB) (hr.mono (by decide)) rfl T.g_is_name T.U_is_name.kp T.b_is_name .nil pass0 (pa_cons (pv 0) pa_nil)) (pa_cons (pe_call (ok_is_path T TB) (hr.mono (by decide)) rfl T.g_is_path T.U_is_path.kp T.b_is_path .nil pass0 (pa_cons (pv 0) pa_nil)) (pa_cons (pe_call (ok_is_pattern T TB) (hr.mono (by decide)) rfl T.g_is_pattern T.U_is_pattern.kp T.b_is_pattern .nil pass0 (pa_cons (pv 0) pa_nil)) pa_nil)))))))
      (pss_cons (ps_set (i := 2) nd rfl (.inl rfl) (pe_lst (pa_cons (pe_call (ok_lwhole T) (hr.mono (by decide)) rfl T.g_l_is_whole T.U_l_is_whole.kp T.b_l_is_whole .nil pass0 (pa_cons (pv 0) pa_nil)) (pa_cons (pe_call (ok_lfrac T) (hr.mono (by decide)) rfl T.g_l_is_fraction T.U_l_is_fraction.kp T.b_l_is_fraction .nil pass0 (pa_cons (pv 0) pa_nil)) (pa_cons (pe_call (ok_lname T) (hr.mono (by decide)) rfl T.g_l_is_name T.U_l_is_name.kp T.b_l_is_name .nil pass0 (pa_cons (pv 0) pa_nil)) (pa_cons (pe_call (ok_lpath T) (hr.mono (by decide)) rfl T.g_l_is_path T.U_l_is_path.kp T.b_l_is_path .nil pass0 (pa_cons (pv 0) pa_nil)) pa_nil))))))
      (pss_cons (ps_expr (pe_bm PySem.F.plainAttrs_list PySem.F.slot_list_append PySem.F.type_list_append mt_append (pv 2) (pa_cons (pe_call (ok_lpat T) (hr.mono (by decide)) rfl T.g_l_is_pattern T.U_l_is_pattern.kp T.b_l_is_pattern .nil pass0 (pa_cons (pv 0) pa_nil)) pa_nil)))
      (pss_cons (ps_for PassesOwn.never rfl (pi_list (pe_lst (pa_cons (pe_tup (pa_cons pe_int (pa_cons pe_int pa_nil))) (pa_cons (pe_tup (pa_cons (pe_un un_neg pe_int) (pa_cons pe_int pa_nil))) (pa_cons (pe_tup (pa_cons pe_int (pa_cons pe_int pa_nil))) (pa_cons (pe_tup (pa_cons pe_int (pa_cons (pe_op op_pow pe_int pe_int) pa_nil))) pa_nil)))))) (pg_tup rfl (pgs_cons (pg_name (i := 3) nd rfl (.inl rfl)) (pgs_cons (pg_name (i := 4) nd rfl (.inl rfl)) pgs_nil)))
        (pss_cons (ps_expr (pe_bm PySem.F.plainAttrs_list PySem.F.slot_list_append PySem.F.type_list_append mt_append (pv 1) (pa_cons (pe_call (ok_betw T) (hr.mono (by decide)) rfl T.g_is_between T.U_is_between.kp T.b_is_between .nil pass0 (pa_cons (pv 0) (pa_cons (pv 3) (pa_cons (pv 4) pa_nil)))) pa_nil)))
        (pss_one (ps_expr (pe_bm PySem.F.plainAttrs_list PySem.F.slot_list_append PySem.F.type_list_append mt_append (pv 2) (pa_cons (pe_and (pe_call (ok_lwhole T) (hr.mono (by decide)) rfl T.g_l_is_whole T.U_l_is_whole.kp T.b_l_is_whole .nil pass0 (pa_cons (pv 0) pa_nil)) (pe_one (pe_chain op_le op_le (pv 3) (pv 0) (pv 4)))) pa_nil))))))
      (pss_one (ps_ret (pe_cmpR op_eq (pe_callB (call_reprD hgu hu64 hM) (by rfl) T.repr (by decide +kernel) (pa_cons (pv 1) pa_nil)) (pe_callB (call_reprD hgu hu64 hM) (by rfl) T.repr (by decide +kernel) (pa_cons (pv 2) pa_nil)) (nomark _))))))), ?_⟩
    have sh : ShortD d := by
      cases d with
      | str z => exact hg.1
      | _ => trivial
    refine ⟨_, rfl, _, _, rfl, hd, _, rfl, _, _, rfl, hd, hs, _, rfl, _, _, rfl, hd, sh, hT.2.2, fun H1 t1 => ?_⟩
    have u1 := Up.tab hT t1 (.inr (.inr rfl))
    have d1 := hd.stay (u1.stay hT)
    refine ⟨_, rfl, _, _, rfl, d1, sh, u1.1.1, fun H2 t2 => ?_⟩
    have u2 := u1.trans (Up.tab u1.1 t2 (.inl rfl))
    have d2 := hd.stay (u2.stay hT)
    refine ⟨_, rfl, _, _, rfl, d2, sh, u2.1.2.1, fun H3 t3 => ⟨by show 5 ≤ sizeLine; omega, fun m1 hm1 => ?_⟩⟩
    have u3 := u2.trans (Up.tab u2.1 t3 (.inr (.inl rfl)))
    have f1 : H m1 = none := u3.fresh hm1
    have sm1 := same_upd (o := HO.lst (blV [wholeD d, fracD d, nameD d, pathD d, patD d])) hm1
    have u4 := u3.trans (Up.same u3.1 sm1)
    have d4 := hd.stay (u4.stay hT)
    refine ⟨_, rfl, _, _, rfl, d4, _, rfl, _, _, rfl, d4, hs, _, rfl, _, _, rfl, d4, hg, fun H5 s5 => ?_⟩
    have u5 := u4.trans (Up.same u4.1 s5)
    have d5 := hd.stay (u5.stay hT)
    refine ⟨_, rfl, _, _, rfl, d5, hg, fun H6 s6 => ⟨by show 4 ≤ sizeLine; omega, fun m2 hm2 => ?_⟩⟩
    have u6 := u5.trans (Up.same u5.1 s6)
    have f2 : H m2 = none := u6.fresh hm2
    have e61 : H6 m1 = some (.lst (blV [wholeD d, fracD d, nameD d, pathD d, patD d])) := s6 _ _ (s5 _ _ upd_same)
    have n12 : m1 ≠ m2 := fun e => by rw [e, hm2] at e61; cases e61
    have sm2 := same_upd (o := HO.lst (blV [wholeD d, fracD d, nameD d, pathD d])) hm2
    have u7 := u6.trans (Up.same u6.1 sm2)
    have d7 := hd.stay (u7.stay hT)
    refine ⟨_, rfl, .inl ⟨rfl, _, SqL.of upd_same⟩, _, rfl, _, _, rfl, d7, hg, fun H8 s8 => ?_⟩
    have e82 := s8 _ _ (upd_same (H := H6) (a := m2) (o := HO.lst (blV [wholeD d, fracD d, nameD d, pathD d])))
    have e81 := s8 _ _ (sm2 _ _ e61)
    refine ⟨m2, _, _, rfl, rfl, e82, by show 4 < sizeLine; omega, ?_⟩
    have u8 := (u7.trans (Up.same u7.1 s8)).put (ys := blV [wholeD d, fracD d, nameD d, pathD d] ++ [V.bl (patD d)]) f2 e82
    have g82 : upd H8 m2 (.lst (blV [wholeD d, fracD d, nameD d, pathD d] ++ [V.bl (patD d)])) m2 = some (.lst (blV [wholeD d, fracD d, nameD d, pathD d, patD d])) := upd_same
    have g81 := (upd_ne (o := HO.lst (blV [wholeD d, fracD d, nameD d, pathD d] ++ [V.bl (patD d)])) n12).trans e81
    generalize upd H8 m2 (.lst (blV [wholeD d, fracD d, nameD d, pathD d] ++ [V.bl (patD d)])) = H9 at *
    dsimp only
    have LP : Lits _ pairsD := (lits_cons (lit_tup (lits_cons (lit_int _) (lits_cons (lit_int _) lits_nil)) (by decide)) (lits_cons (lit_tup (lits_cons lit_neg1 (lits_cons (lit_int _) lits_nil)) (by decide)) (lits_cons (lit_tup (lits_cons (lit_int _) (lits_cons (lit_int _) lits_nil)) (by decide)) (lits_cons (lit_tup (lits_cons (lit_int _) (lits_cons lit_pow lits_nil)) (by decide)) lits_nil))))
    have hls : ∀ x ∈ [m1, m2], H9 x ≠ none := by
      intro x hx
      simp only [List.mem_cons, List.not_mem_nil, or_false] at hx
      rcases hx with rfl | rfl
      · rw [g81]; exact fun q => nomatch q
      · rw [g82]; exact fun q => nomatch q
    refine seq_forlits [m1, m2] hls LP (by decide) fun ws HL l nw sL oL eL fL => ?_
    have nl1 : l ≠ m1 := fun e => by rw [e, g81] at fL; cases fL
    have nl2 : l ≠ m2 := fun e => by rw [e, g82] at fL; cases fL
    have uL := u8.trans (Up.same u8.1 sL)
    have fl : H l = none := u8.fresh fL
    refine for_list (K := K) (a := l) (xs := ws) (fun i σ HC => Up T H HC ∧ HC l = some (.lst ws) ∧ OdAll (hide HC [m1, m2]) ws pairsD ∧ ∃ (bs : List Bool) (v3 v4 : Option V), σ = [some v, some (.ref m1), some (.ref m2), v3, v4] ∧ bs.length = 5 + i ∧ HC m1 = some (.lst (blV bs)) ∧ HC m2 = some (.lst (blV bs)))
      ⟨uL, eL, oL, _, none, none, rfl, rfl, sL _ _ g81, sL _ _ g82⟩ (fun i σ HC _ q => SqL.of q.2.1) ?_ ?_
    · rintro i x σ HC hx ⟨uC, eC, oC, bs, v3, v4, rfl, lb, h1, h2⟩
      obtain ⟨d', hd', ox⟩ := OdAll.at oC hx
      obtain ⟨lo, hi, rfl⟩ := pairs_int d' hd'
      obtain ⟨a, y1, y2, rfl, ea, oy1, oy2⟩ := od_two ox
      cases od_int oy1
      cases od_int oy2
      have hi4 : i < 4 := by
        have := (List.getElem?_eq_some_iff.mp hx).1
        have e4 : pairsD.length = 4 := rfl
        omega
      have dC := hd.stay (uC.stay hT)
      refine ⟨a, _, rfl, .inl (.inl (hide_same _ _ _ _ ea)), rfl, _, _, rfl, _, _, rfl, rfl, ?_⟩
      refine ⟨_, rfl, .inl ⟨rfl, _, SqL.of h1⟩, _, rfl, _, rfl, _, rfl, v, d, lo, hi, rfl, dC, m1, _, _, rfl, rfl, h1, by unfold blV; rw [List.length_map]; omega, ?_⟩
      have uD := uC.put (ys := blV bs ++ [V.bl (betwD d lo hi)]) f1 h1
      have k1 := upd_same (H := HC) (a := m1) (o := HO.lst (blV bs ++ [V.bl (betwD d lo hi)]))
      have k2 := (upd_ne (o := HO.lst (blV bs ++ [V.bl (betwD d lo hi)])) (Ne.symm n12)).trans h2
      have kl := (upd_ne (o := HO.lst (blV bs ++ [V.bl (betwD d lo hi)])) nl1).trans eC
      have ko : OdAll (hide (upd HC m1 (.lst (blV bs ++ [V.bl (betwD d lo hi)]))) [m1, m2]) ws pairsD := by rw [hide_upd (by simp)]; exact oC
      generalize upd HC m1 (.lst (blV bs ++ [V.bl (betwD d lo hi)])) = HD at *
      have dD := hd.stay (uD.stay hT)
      refine next_of ?_
      dsimp only
      refine ⟨_, rfl, .inl ⟨rfl, _, SqL.of k2⟩, ?_⟩
      refine and_pure (wholeD d) (betwD d lo hi) (fun Q' q' => ⟨_, rfl, _, _, rfl, dD, q'⟩) (fun hw Q' q' => ?_) ?_
      · rcases whole_or d with ⟨n, rfl⟩ | hno
        case inr => rw [hno] at hw; cases hw
        have hv := od_int hd
        subst hv
        refine ⟨_, rfl, _, rfl, _, _, rfl, rfl, _, rfl, ite2 (fun h1 => ⟨_, rfl, _, _, rfl, rfl, ?_⟩) (fun h1 => ?_)⟩
        · have e : betwD (.int n) lo hi = decide (n ≤ hi) := by
            show (decide (lo ≤ n) && decide (n ≤ hi)) = _
            rw [h1, Bool.true_and]
          rw [e] at q'
          exact q'
        · have e : betwD (.int n) lo hi = false := by
            show (decide (lo ≤ n) && decide (n ≤ hi)) = _
            rw [Bool.eq_false_iff.mpr h1, Bool.false_and]
          rw [e] at q'
          exact q'
      · have e : (wholeD d && betwD d lo hi) = betwD d lo hi := by cases d <;> rfl
        rw [e]
        refine ⟨m2, _, _, rfl, rfl, k2, by unfold blV; rw [List.length_map]; omega, ?_⟩
        have eb : blV bs ++ [V.bl (betwD d lo hi)] = blV (bs ++ [betwD d lo hi]) := by unfold blV; rw [List.map_append]; rfl
        refine ⟨uD.put f2 k2, (upd_ne nl2).trans kl, by rw [hide_upd (by simp)]; exact ko, bs ++ [betwD d lo hi], _, _, rfl, by rw [List.length_append, lb]; rfl, ?_, ?_⟩
        · rw [← eb]
          exact (upd_ne n12).trans k1
        · rw [← eb]
          exact upd_same
    · rintro σ HC ⟨uC, eC, oC, bs, v3, v4, rfl, lb, h1, h2⟩
      have e4 : ws.length = 4 := nw
      obtain ⟨b1, b2, b3⟩ := bl_facts (l := bs) (by omega)
      refine ⟨_, rfl, _, _, rfl, .lst (SqL.of h1) (dqAll_bl bs), b1, b2, b3, _, rfl, _, _, rfl, .lst (SqL.of h2) (dqAll_bl bs), b1, b2, b3, rfl, ?_⟩
      show Q (.bl (decide (V.str _ = V.str _))) HC
      rw [decide_eq_true rfl]
      exact k HC uC
end
end KP

set_option Elab.async false
set_option maxRecDepth 100000
set_option maxHeartbeats 1000000
set_option linter.all false
/-! Ours: one order told rightly. -/
namespace KP
open PySem PySem.Spec PyProof.Rows L2 Gr GxR
def same2 : {α : Type} → List α → List α → List α
  | _, [], [a, b] => [a, b]
  | _, _, _ => []
theorem kb_less {K : PySem.W.Frag} {mg : Str → Option Value} (T : D K mg) : KBinds K T.d_is_lesser ["path", "other"] ["path", "other"] same2 same2 := by
  refine ⟨fun s us ws _ hl => ?_, fun {vs us zs ws} h1 h2 => ?_⟩
  · obtain ⟨oc, od, kV, doc, pm, an, cdv, ct, osl, e, lk, hcd⟩ := T.U_is_lesser.ex
    match us, ws, hl with
    | [], [a, b], _ =>
      rw [e]
      exact .of_eq rfl
  · cases h1 with
    | nil =>
      match zs, ws, h2 with
      | [], _, .nil => exact .nil
      | [_], _, .cons _ .nil => exact .nil
      | [_, _], _, .cons a (.cons b .nil) => exact .cons a (.cons b .nil)
      | _ :: _ :: _ :: _, _, .cons _ (.cons _ (.cons _ _)) => exact .nil
    | cons a b => exact .nil
def spOrd {K : PySem.W.Frag} {mg : Str → Option Value} (T : D K mg) : Sp := fun vs H Q _ => ∃ x y : Str, vs = [.str x, .str y] ∧ isPath x = true ∧ isPath y = true ∧ x.length ≤ 1000 ∧ y.length ≤ 1000 ∧ TT3 T H ∧ ∀ H', Up T H H' → Q (.bl true) H'
theorem less_self (x : Str) : lessS x x = false := by
  unfold lessS
  rw [if_pos rfl]
  exact decide_eq_false (List.lt_irrefl _)
section
variable {P : Program} {w : World} {K : PySem.W.Frag} {mg : Str → Option Value} {base : Heap}
theorem sc_ord : FnScope ["_law_one_here", "_law_other", "_law_told"] ["_law_one_here", "_law_other"] (defScope s_l_order_right) := ⟨rfl, rfl, rfl, by decide +kernel, rfl, by decide +kernel, by decide +kernel⟩
theorem ok_ord (T : D K mg) (TB : Tabs base T) (hM : SysM K) : FnQ P w K mg base CX0 5 T.f_l_order_right T.d_l_order_right ["_law_one_here", "_law_other"] (spOrd T) := by
  refine funQ T.U_l_order_right sc_ord (fun vs H Q E h => ?_) (fun cdv A outer s H vs Q E hgu hr h => ?_)
  · obtain ⟨x, y, rfl, _⟩ := h
    rfl
  · obtain ⟨x, y, rfl, hx, hy, lx, ly, hT, k⟩ := h
    have nd := sc_ord.nd
    have hu64 : (A.deeper (envOfC "_law_order_right" (defScope s_l_order_right) s.heap.objs.size T.f_l_order_right cdv)).units + 64 < cLine := hr.units
    have mz : 5000 ≤ sizeLine := by decide
    refine ⟨_, pss_cons (ps_set (i := 2) nd rfl (.inl rfl) (pe_lst (pa_cons (pe_call (ok_less T TB) hr rfl T.g_is_lesser T.U_is_lesser.kp T.b_is_lesser .nil pass0 (pa_cons (pv 0) (pa_cons (pv 1) pa_nil))) (pa_cons (pe_call (ok_less T TB) hr rfl T.g_is_lesser T.U_is_lesser.kp T.b_is_lesser .nil pass0 (pa_cons (pv 1) (pa_cons (pv 0) pa_nil))) (pa_cons (pe_callK0 (ok_less T TB) hr rfl T.g_is_lesser T.U_is_lesser.kp (kb_less T) pass0 (pk_cons (pv 0) (pk_cons (pv 0) pk_nil))) pa_nil)))))
      (pss_one (ps_ret (pe_cmpR op_eq (pe_callB (call_reprD hgu hu64 hM) (by rfl) T.repr (by decide +kernel) (pa_cons (pv 2) pa_nil)) (pe_callB (call_reprD hgu hu64 hM) (by rfl) T.repr (by decide +kernel) (pa_cons (pe_lst (pa_cons (pe_call (ok_lless T) (hr.mono (by decide)) rfl T.g_l_lesser T.U_l_lesser.kp T.b_l_lesser .nil pass0 (pa_cons (pv 0) (pa_cons (pv 1) pa_nil))) (pa_cons (pe_call (ok_lless T) (hr.mono (by decide)) rfl T.g_l_lesser T.U_l_lesser.kp T.b_l_lesser .nil pass0 (pa_cons (pv 1) (pa_cons (pv 0) pa_nil))) (pa_cons pe_bl pa_nil)))) pa_nil)) (nomark _)))), ?_⟩
    refine ⟨_, rfl, _, rfl, x, y, rfl, hx, hy, lx, ly, hT, fun H1 u1 => ⟨_, rfl, _, rfl, y, x, rfl, hy, hx, ly, lx, u1.1, fun H2 u2 => ⟨_, rfl, _, rfl, x, x, rfl, hx, hx, lx, lx, u2.1, fun H3 u3 => ⟨by show 3 ≤ sizeLine; omega, fun m hm => ?_⟩⟩⟩⟩
    have u3' := u1.trans (u2.trans u3)
    rw [less_self]
    have sm := same_upd (o := HO.lst (blV [lessS x y, lessS y x, false])) hm
    obtain ⟨b1, b2, b3⟩ := bl_facts (l := [lessS x y, lessS y x, false]) (by show 3 ≤ 60; decide)
    refine ⟨_, rfl, _, _, rfl, .lst (SqL.of (upd_same (o := HO.lst (blV [lessS x y, lessS y x, false])))) (dqAll_bl _), b1, b2, b3, ?_⟩
    refine ⟨_, rfl, _, rfl, x, y, rfl, hx, hy, lx, ly, fun H5 s5 => ⟨_, rfl, _, rfl, y, x, rfl, hy, hx, ly, lx, fun H6 s6 => ⟨by show 3 ≤ sizeLine; omega, fun m2 hm2 => ?_⟩⟩⟩
    refine ⟨_, _, rfl, .lst (SqL.of (upd_same (o := HO.lst (blV [lessS x y, lessS y x, false])))) (dqAll_bl _), b1, b2, b3, rfl, ?_⟩
    show Q (.bl (decide (V.str _ = V.str _))) _
    rw [decide_eq_true rfl]
    exact k _ (u3'.trans (Up.same u3'.1 (sm.trans (s5.trans (s6.trans (same_upd hm2))))))
end
end KP

set_option Elab.async false
set_option maxRecDepth 100000
set_option maxHeartbeats 2000000
set_option linter.all false
/-! Ours: one turn of the law. -/
namespace KP
open PySem PySem.Spec PyProof.Rows L2 Gr GxR
def Mv {K : PySem.W.Frag} {mg : Str → Option Value} (T : D K mg) (p : Addr) (H H' : Hp) : Prop := (∀ b o, H b = some o → b ≠ p → (∀ ps, o ≠ .tbl ps) → H' b = some o) ∧ Well H' p ∧ TT3 T H'
def spRight {K : PySem.W.Frag} {mg : Str → Option Value} (T : D K mg) : Sp := fun vs H Q _ => ∃ p : Addr, vs = [.ref p] ∧ Well H p ∧ TT3 T H ∧ ∀ H', Mv T p H H' → Q (.bl true) H'
theorem call_reprDB {X : Cx} {s : Shared} {H : Hp} {sc : Scope} {en : Env} {fp : List Addr} (hgu : X.A.guards = some []) (hu : X.A.units + 64 < cLine) (hM : SysM X.K) : CallR (X.blk s H sc en fp) (.builtin "repr") (rRepr X.K) := call_reprD (X := X.blk s H sc en fp) hgu hu hM
theorem blk_any {N : List Str} {sc sc' scope : Scope} {own : List (Str × Nat)} (h : BlkOk N sc scope own) (nf : ∀ y ∈ scope.names, y.2 ≠ .free) : BlkOk N sc' scope own := ⟨h.kind, h.uniq, h.ix, fun y hy e => absurd e (nf y hy), h.own⟩
theorem mt_joinB {X : Cx} {s : Shared} {H : Hp} {sc : Scope} {en : Env} {fp : List Addr} : MtR (X.blk s H sc en fp) "str.join" (fun x xs H Q => ∃ a p, ∃ ys : List Str, x = .str a ∧ xs = [.ref p] ∧ (SqL X.K H p (ys.map V.str) ∨ SqT X.K H p (ys.map V.str)) ∧ (ys.map (·.length)).sum + ys.length * a.length ≤ 16777216 ∧ Q (.str (Txt.join a ys)) H) := mt_join
theorem tup_le (ds : List PyData) : (PyData.tuple ds).shown.length ≤ piled (PyData.shownAll ds) + 3 := by
  rw [PyData.shown_tuple]
  cases ds with
  | nil => decide +kernel
  | cons d r =>
    have h := join_length_add (PyData.shownAll (d :: r)) (by simp [PyData.shownAll])
    rw [Str.length_append, Str.length_append]
    have e1 : ("(" : Str).length = 1 := by decide +kernel
    have e2 : ∀ b : Bool, (((if b then ",)" else ")" : String)) : Str).length ≤ 2 := by decide +kernel
    have := e2 ((d :: r).length == 1)
    omega
theorem ok_all : ∀ {ds : List PyData}, (∀ d ∈ ds, okB d = true) → PyData.showableAll ds = true ∧ PyData.depthAll ds ≤ 7 ∧ piled (PyData.shownAll ds) ≤ 102 * ds.length
  | [], _ => ⟨rfl, by simp [PyData.depthAll], by simp [PyData.shownAll, piled_nil]⟩
  | d :: ds, h => by
    obtain ⟨a, b, c⟩ := ok_all (ds := ds) fun e he => h e (List.mem_cons_of_mem _ he)
    have hd := h d List.mem_cons_self
    unfold okB at hd
    simp only [Bool.and_eq_true, decide_eq_true_eq] at hd
    refine ⟨by simp [PyData.showableAll, hd.2.2.1, a], ?_, ?_⟩
    · simp only [PyData.depthAll]
      have := hd.2.2.2.1
      omega
    · simp only [PyData.shownAll, piled_cons, List.length_cons]
      have := hd.2.2.2.2
      omega
theorem tup_facts {ds : List PyData} (h : ∀ d ∈ ds, okB d = true) (n : ds.length ≤ 8) : (PyData.tuple ds).showable = true ∧ (PyData.tuple ds).depth ≤ 60 ∧ (PyData.tuple ds).shown.length ≤ sizeLine := by
  obtain ⟨a, b, c⟩ := ok_all h
  have h1 := tup_le ds
  have mz : 5000 ≤ sizeLine := by decide
  refine ⟨by simp [PyData.showable, a], by simp only [PyData.depth]; omega, by omega⟩
theorem okB_ints : (List.range 60).all (fun n => okB (.int ((n : Nat) - 20))) = true := by decide +kernel
theorem okB_int {i : Int} (h0 : 0 ≤ i) (h1 : i < 60) : okB (.int (i - 20)) = true := by
  have := List.all_eq_true.mp okB_ints i.toNat (List.mem_range.mpr (by omega))
  rw [Int.toNat_of_nonneg h0] at this
  exact this
theorem hide_up {H H1 : Hp} {p D : Addr} {o : HO} (b : But H H1 p) : Same (hide H [p, D]) (hide (upd H1 D o) [p, D]) := fun a x e => by
  unfold hide at e ⊢
  split at e
  · cases e
  · rename_i z
    rw [if_neg z, upd_ne (fun q => z (by rw [q]; simp))]
    exact b a x e fun q => z (by rw [q]; simp)
theorem hide_one {H : Hp} {p D : Addr} : Same (hide H [p, D]) (hide H [p]) := fun a x e => by
  unfold hide at e ⊢
  split at e
  · cases e
  · rename_i z
    rw [if_neg fun q => z (by rw [List.mem_singleton.mp q]; simp)]
    exact e
theorem hide_but {H H1 : Hp} {p : Addr} (b : But H H1 p) : Same (hide H [p]) (hide H1 [p]) := fun a x e => by
  unfold hide at e ⊢
  split at e
  · cases e
  · rename_i z
    rw [if_neg z]
    exact b a x e fun q => z (by rw [q]; simp)
theorem small_of {d : PyData} (h : okB d = true) : SmallB d := by
  unfold okB at h
  rw [Bool.and_eq_true] at h
  have h1 := h.1
  unfold smallB at h1
  unfold SmallB
  split <;> first | trivial | (simpa using h1)
theorem good_of {d : PyData} (h : okB d = true) : GoodD d := by
  unfold okB at h
  rw [Bool.and_eq_true, Bool.and_eq_true] at h
  have h1 := h.2.1
  cases d with
  | str z =>
    have h1 : (decide (z.length ≤ 1000) && z.cps.toList.all fun c => decide (c < 1114112)) = true := h1
    rw [Bool.and_eq_true] at h1
    exact ⟨of_decide_eq_true h1.1, fun c hc => of_decide_eq_true (List.all_eq_true.mp h1.2 c hc)⟩
  | _ => trivial
theorem gn {i : Nat} {v : V} {σ : L2.St} {H : Hp} {Q : L2.St → Hp → Prop} (h : Q (σ.set i (some v)) H) : gName i v σ H Q := h
theorem path_pos {z : Str} (h : isPath z = true) : 0 < z.length := by
  unfold isPath at h
  rw [Bool.and_eq_true, beq_iff_eq] at h
  exact (List.getElem?_eq_some_iff.mp h.1).1
theorem path_take {z u : Str} {n : Nat} (h : isPath z = true) (hn : 0 < n) (e : u.cps.toList = z.cps.toList.take n) : isPath u = true := by
  unfold isPath at h ⊢
  rw [Bool.and_eq_true] at h ⊢
  rw [e]
  refine ⟨by rw [List.getElem?_take_of_lt hn]; exact h.1, List.all_eq_true.mpr fun c hc => List.all_eq_true.mp h.2 c (List.mem_of_mem_take hc)⟩
theorem upd2 {H : Hp} {a : Addr} {o : HO} (h : H a = none) : Same H (upd H a o) ∧ upd H a o a = some o := ⟨same_upd h, upd_same⟩
section
variable {K : PySem.W.Frag} {mg : Str → Option Value} {T : D K mg} {p : Addr} {H H1 H2 : Hp}
theorem Mv.refl (w : Well H p) (h : TT3 T H) : Mv T p H H := ⟨fun _ _ e _ _ => e, w, h⟩
theorem Mv.trans (a : Mv T p H H1) (b : Mv T p H1 H2) : Mv T p H H2 := ⟨fun x o e n m => b.1 x o (a.1 x o e n m) n m, b.2⟩
theorem tab_but {q : Addr} (w : Well H p) (h : TabG H q) (b : But H H1 p) : TabG H1 q := by
  obtain ⟨ps, e, t⟩ := h
  refine ⟨ps, b _ _ e fun z => ?_, t⟩
  obtain ⟨_, _, _, ew⟩ := w
  rw [z, ew] at e
  cases e
theorem Mv.but (w : Well H p) (h : TT3 T H) (b : But H H1 p) (w1 : Well H1 p) : Mv T p H H1 := ⟨fun x o e n _ => b x o e n, w1, tab_but w h.1 b, tab_but w h.2.1 b, tab_but w h.2.2 b⟩
theorem Mv.up (w : Well H p) (h : TT3 T H) (u : Up T H H1) : Mv T p H H1 := by
  have s := u.stay h
  refine ⟨fun x o e _ m => s x o e m, ?_, u.1⟩
  obtain ⟨a, b, c, e⟩ := w
  exact ⟨a, b, c, s _ _ e (fun _ q => nomatch q)⟩
theorem Mv.same (w : Well H p) (h : TT3 T H) (s : Same H H1) : Mv T p H H1 := Mv.up w h (Up.same h s)
theorem Mv.lst (m : Mv T p H H1) {a : Addr} {xs : List V} (e : H a = some (.lst xs)) (n : a ≠ p) : H1 a = some (.lst xs) := m.1 _ _ e n fun _ q => nomatch q
/-- what stands beside the well stays -/
theorem Mv.hid (m : Mv T p H H1) {v : V} {d : PyData} (o : Od (hide H [p]) v d) : Od (hide H1 [p]) v d := by
  refine o.stay fun a x e n => ?_
  unfold hide at e ⊢
  split at e
  · cases e
  · rename_i z
    rw [if_neg z]
    exact m.1 a x e (fun q => z (by rw [q]; exact List.mem_cons_self)) n
theorem Mv.put {D : Addr} {xs ys : List V} (m : Mv T p H H1) (n : H D = none) (np : D ≠ p) (e : H1 D = some (.lst xs)) : Mv T p H (upd H1 D (.lst ys)) := by
  obtain ⟨k, ⟨a, b, c, ew⟩, t1, t2, t3⟩ := m
  have ne : ∀ {q : Addr}, TabG H1 q → q ≠ D := fun ⟨ps, e1, _⟩ z => by
    rw [z, e] at e1
    cases e1
  have cp : ∀ {q : Addr}, TabG H1 q → TabG (upd H1 D (.lst ys)) q := fun t => let ⟨ps, e1, x⟩ := t; ⟨ps, (upd_ne (ne t)).trans e1, x⟩
  refine ⟨fun x o q m1 m2 => ?_, ⟨a, b, c, (upd_ne (Ne.symm np)).trans ew⟩, cp t1, cp t2, cp t3⟩
  rw [upd_ne (ne_of_none q n)]
  exact k x o q m1 m2
end
section
variable {P : Program} {w : World} {K : PySem.W.Frag} {mg : Str → Option Value} {base : Heap}
theorem sc_right : FnScope ["_law_well_here", "_law_letters", "_law_texts", "_law_top", "_law_below", "_law_numbers", "_law_value", "_law_paths", "_law_row", "_law_at", "_law_kept", "_law_signs_here", "_law_text_here", "_law_turn", "_law_sign"] ["_law_well_here"] (defScope s_l_right) := ⟨rfl, rfl, rfl, by decide +kernel, rfl, by decide +kernel, by decide +kernel⟩
theorem ok_l_right (T : D K mg) (TB : Tabs base T) (hM : SysM K) : FnQ P w K mg base CX0 6 T.f_l_right T.d_l_right ["_law_well_here"] (spRight T) := by
  refine funQ T.U_l_right sc_right (fun vs H Q E h => ?_) (fun cdv A outer s H vs Q E hgu hr h => ?_)
  · obtain ⟨p, rfl, _⟩ := h
    rfl
  · obtain ⟨p, rfl, hp, hT, k⟩ := h
    have nd := sc_right.nd
    have hu64 : (A.deeper (envOfC "_law_right" (defScope s_l_right) s.heap.objs.size T.f_l_right cdv)).units + 64 < cLine := hr.units
    have mz : 5000 ≤ sizeLine := by decide
    have GV : FnQ P w K mg base CX0 4 T.f_l_value_right T.d_l_value_right ["_law_value"] (spVR T) := ok_vr T TB hM
    have GO : FnQ P w K mg base CX0 5 T.f_l_order_right T.d_l_order_right ["_law_one_here", "_law_other"] (spOrd T) := ok_ord T TB hM
    refine ⟨_, pss_cons (ps_set (i := 1) nd rfl (.inl rfl) pe_str)
      (pss_cons (ps_setLc (i := 2) (own := [("_law_signs_here", 11)]) (g := gName 11) (tt := tYes) rfl nd rfl rfl (sw_true rfl rfl rfl (by decide +kernel)) (pi_list (pe_lst (pa_cons (pv 1) (pa_cons (pe_call0 (ok_l_signs T) (hr.mono (by decide)) (by rfl) T.g_l_signs T.U_l_signs.kp T.b_l_signs .nil pass0) (pa_cons (pe_op op_add_str (pe_call0 (ok_l_signs T) (hr.mono (by decide)) (by rfl) T.g_l_signs T.U_l_signs.kp T.b_l_signs .nil pass0) pe_str) (pa_cons pe_str pa_nil)))))) (blkOk_by (N := ["_law_well_here", "_law_letters", "_law_texts", "_law_top", "_law_below", "_law_numbers", "_law_value", "_law_paths", "_law_row", "_law_at", "_law_kept", "_law_signs_here", "_law_text_here", "_law_turn", "_law_sign"]) (sc := defScope s_l_right) (by decide +kernel)) (fun _ _ _ _ _ => pg_name (i := 11) nd rfl (.inl rfl)) (fun _ _ _ _ _ => pts_nil) (fun _ _ _ _ _ => pe_call (ok_text T) (hr.mono (by decide)) rfl T.g_l_text T.U_l_text.kp T.b_l_text .nil pass0 (pa_cons (pv 0) (pa_cons (pv 11) pa_nil))))
      (pss_cons (ps_par (i := 3) (j := 4) (by rfl) nd rfl rfl (by decide) rfl rfl (pa_cons (pe_op op_sub (pe_call (ok_l_pick T) (hr.mono (by decide)) rfl T.g_l_pick T.U_l_pick.kp T.b_l_pick .nil pass0 (pa_cons (pv 0) (pa_cons pe_int pa_nil))) pe_int) (pa_cons (pe_op op_sub (pe_call (ok_l_pick T) (hr.mono (by decide)) rfl T.g_l_pick T.U_l_pick.kp T.b_l_pick .nil pass0 (pa_cons (pv 0) (pa_cons pe_int pa_nil))) pe_int) pa_nil)) (by rfl))
      (pss_cons (ps_set (i := 5) nd rfl (.inl rfl) (pe_lst (pa_cons (pv 3) (pa_cons (pe_tup (pa_cons (pv 3) (pa_cons (pv 4) pa_nil))) (pa_cons (pe_tup (pa_cons (pe_op op_mul (pv 3) pe_int) (pa_cons (pe_op op_mul (pv 4) pe_int) pa_nil))) (pa_cons (pe_tup (pa_cons (pv 4) (pa_cons (pv 3) (pa_cons pe_int pa_nil)))) (pa_cons (pe_tup (pa_cons (pe_op op_add (pe_op op_pow pe_int pe_int) (pv 3)) (pa_cons pe_int pa_nil))) (pa_cons (pe_lst (pa_cons (pv 3) pa_nil)) pa_nil))))))))
      (pss_cons (ps_for PassesOwn.never rfl (pi_list (pe_op op_cat (pe_op op_cat (pv 2) (pv 5)) (pe_lst (pa_cons (pe_call (ok_odd T) (hr.mono (by decide)) rfl T.g_l_odd T.U_l_odd.kp T.b_l_odd .nil pass0 (pa_cons (pv 0) pa_nil)) pa_nil)))) (pg_name (i := 6) nd rfl (.inl rfl))
        (pss_one (ps_if (pt_not (pt_val (pe_callQ hgu GV (hr.mono (by decide)) rfl T.g_l_value_right T.U_l_value_right.kp T.b_l_value_right .nil pass0 (pa_cons (pv 6) pa_nil))))
          (pss_one (ps_ret pe_bl))
          (pss_nil))))
      (pss_cons (ps_setLc (i := 7) (own := [("_law_text_here", 12)]) (g := gName 12) (tt := tYes) rfl nd rfl rfl (sw_true rfl rfl rfl (by decide +kernel)) (pi_list (pv 2)) (blkOk_by (N := ["_law_well_here", "_law_letters", "_law_texts", "_law_top", "_law_below", "_law_numbers", "_law_value", "_law_paths", "_law_row", "_law_at", "_law_kept", "_law_signs_here", "_law_text_here", "_law_turn", "_law_sign"]) (sc := defScope s_l_right) (by decide +kernel)) (fun _ _ _ _ _ => pg_name (i := 12) nd rfl (.inl rfl)) (fun _ _ _ _ _ => pts_nil) (fun _ _ _ _ _ => pe_op op_add_str pe_str (pe_m1 PySem.F.slot_str_join PySem.F.type_str_join mt_joinB pe_str (pe_lc (own := [("_law_sign", 14)]) (g := gName 14) rfl nd (pi_str (pv 12)) (blk_any (sc := defScope s_l_right) (blkOk_by (N := ["_law_well_here", "_law_letters", "_law_texts", "_law_top", "_law_below", "_law_numbers", "_law_value", "_law_paths", "_law_row", "_law_at", "_law_kept", "_law_signs_here", "_law_text_here", "_law_turn", "_law_sign"]) (by decide +kernel)) (by decide +kernel)) (fun _ _ _ _ _ => pg_name (i := 14) nd rfl (.inl rfl)) (fun _ _ _ _ _ => (pts_one (pt_cmpR op_in_sign (pv 14) (pe_call0 (ok_l_signs T) (hr.mono (by decide)) (by rfl) T.g_l_signs T.U_l_signs.kp T.b_l_signs .nil pass0) rfl))) (fun _ _ _ _ _ => pv 14)))))
      (pss_cons (ps_if (PW.pt (pw_or (pt_not (pt_val (pe_callQ hgu GO hr rfl T.g_l_order_right T.U_l_order_right.kp T.b_l_order_right .nil pass0 (pa_cons (pe_ix ix_list (pv 7) pe_int (fun _ _ => rfl)) (pa_cons (pe_ix ix_list (pv 7) pe_int (fun _ _ => rfl)) pa_nil))))) (pw_or1 (pt_not (pt_val (pe_callQ hgu GO hr rfl T.g_l_order_right T.U_l_order_right.kp T.b_l_order_right .nil pass0 (pa_cons (pe_ix ix_list (pv 7) pe_int (fun _ _ => rfl)) (pa_cons (pe_slice sl_str (pe_ix ix_list (pv 7) pe_int (fun _ _ => rfl)) po_none (po_some (pe_callB call_len_str (by rfl) T.len PySem.boot_len (pa_cons (pe_ix ix_list (pv 7) pe_int (fun _ _ => rfl)) pa_nil)))) pa_nil))))))))
        (pss_one (ps_ret pe_bl))
        (pss_nil))
      (pss_cons (ps_set (i := 8) nd rfl (.inl rfl) (pe_callTy call_tuple_of (by rfl) T.tuple (by decide +kernel) (pa_cons (pe_lc (own := [("_law_turn", 13)]) (g := gName 13) (tt := tYes) rfl nd (pi_range1 rfl T.range (pa_cons (pe_op op_add pe_int (pe_call (ok_l_pick T) (hr.mono (by decide)) rfl T.g_l_pick T.U_l_pick.kp T.b_l_pick .nil pass0 (pa_cons (pv 0) (pa_cons pe_int pa_nil)))) pa_nil)) (blkOk_by (N := ["_law_well_here", "_law_letters", "_law_texts", "_law_top", "_law_below", "_law_numbers", "_law_value", "_law_paths", "_law_row", "_law_at", "_law_kept", "_law_signs_here", "_law_text_here", "_law_turn", "_law_sign"]) (sc := defScope s_l_right) (by decide +kernel)) (fun _ _ _ _ _ => pg_name (i := 13) nd rfl (.inl rfl)) (fun _ _ _ _ _ => pts_nil) (fun _ _ _ _ _ => (pe_call (ok_odd T) (hr.mono (by decide)) rfl T.g_l_odd T.U_l_odd.kp T.b_l_odd .nil pass0 (pa_cons (pv 0) pa_nil)))) pa_nil)))
      (pss_cons (ps_par (i := 9) (j := 10) (by rfl) nd rfl rfl (by decide) rfl rfl (pa_cons (pe_call (ok_l_pick T) (hr.mono (by decide)) rfl T.g_l_pick T.U_l_pick.kp T.b_l_pick .nil pass0 (pa_cons (pv 0) (pa_cons (pe_callB call_len_seq (by rfl) T.len PySem.boot_len (pa_cons (pv 8) pa_nil)) pa_nil))) (pa_cons (pe_callB (call_reprD hgu hu64 hM) (by rfl) T.repr (by decide +kernel) (pa_cons (pv 8) pa_nil)) pa_nil)) (by rfl))
      (pss_cons (ps_if (PW.pt (pw_or (pt_cmpR op_ne (pe_callB (call_reprD hgu hu64 hM) (by rfl) T.repr (by decide +kernel) (pa_cons (pe_call (ok_put T) (hr.mono (by decide)) rfl T.g_put_at T.U_put_at.kp T.b_put_at .nil pass0 (pa_cons (pv 8) (pa_cons (pv 9) (pa_cons (pv 3) pa_nil)))) pa_nil)) (pe_callB (call_reprD hgu hu64 hM) (by rfl) T.repr (by decide +kernel) (pa_cons (pe_op op_catA (pe_op op_catA (pe_slice sl_tupA (pv 8) po_none (po_some (pv 9))) (pe_tup (pa_cons (pv 3) pa_nil))) (pe_slice sl_tupA (pv 8) (po_some (pe_op op_add (pv 9) pe_int)) po_none)) pa_nil)) (nomark _)) (pw_or1 (pt_cmpR op_ne (pe_callB (call_reprD hgu hu64 hM) (by rfl) T.repr (by decide +kernel) (pa_cons (pv 8) pa_nil)) (pv 10) (nomark _)))))
        (pss_one (ps_ret pe_bl))
        (pss_nil))
      (pss_one (ps_ret (pe_cmpR op_eq (pe_callB (call_reprD hgu hu64 hM) (by rfl) T.repr (by decide +kernel) (pa_cons (pe_call0 (ok_sop T) (hr.mono (by decide)) (by rfl) T.g_signs_of_paths T.U_signs_of_paths.kp T.b_signs_of_paths .nil pass0) pa_nil)) (pe_callB (call_reprD hgu hu64 hM) (by rfl) T.repr (by decide +kernel) (pa_cons (pe_call0 (ok_l_signs T) (hr.mono (by decide)) (by rfl) T.g_l_signs T.U_l_signs.kp T.b_l_signs .nil pass0) pa_nil)) (nomark _))))))))))))), ?_⟩
    -- four texts
    refine ⟨_, rfl, rfl, rfl, _, _, rfl, rfl, by decide +kernel, by show 4 ≤ sizeLine; omega, fun l hl => ?_⟩
    have nlp := well_ne hp hl
    have s1 := same_upd (o := HO.lst [V.str "abcdefghijklmnopqrstuvwxyz", V.str SGs, V.str (SGs ++ ("*" : Str)), V.str "ab*"]) hl
    have k1 := Mv.same hp hT s1
    have el : upd H l (.lst [V.str "abcdefghijklmnopqrstuvwxyz", V.str SGs, V.str (SGs ++ ("*" : Str)), V.str "ab*"]) l = some (.lst [V.str "abcdefghijklmnopqrstuvwxyz", V.str SGs, V.str (SGs ++ ("*" : Str)), V.str "ab*"]) := upd_same
    generalize upd H l (.lst [V.str "abcdefghijklmnopqrstuvwxyz", V.str SGs, V.str (SGs ++ ("*" : Str)), V.str "ab*"]) = H1 at *
    refine ⟨l, rfl, ⟨_, SqL.of el⟩, fun m2 hm2 => lc_list (K := K) (a := l) (xs := [V.str "abcdefghijklmnopqrstuvwxyz", V.str SGs, V.str (SGs ++ ("*" : Str)), V.str "ab*"]) (fun i H2 => Mv T p H1 H2 ∧ ∃ ts : List Str, H2 m2 = some (.lst (ts.map V.str)) ∧ ts.length = i ∧ ∀ t ∈ ts, Pl 20 t)
      ⟨Mv.same k1.2.1 k1.2.2 (same_upd hm2), [], upd_same, rfl, fun t h => nomatch h⟩ (fun i H2 _ q => SqL.of (q.1.lst el nlp)) ?_ ?_⟩
    · rintro i x H2 hx ⟨mv, ts, et, lt, pt⟩
      have n2 := well_ne k1.2.1 hm2
      have hz : ∃ z : Str, x = .str z ∧ 0 < z.length ∧ z.length ≤ 1000 ∧ ∀ c ∈ z.cps.toList, c < 128 := by
        have hm := List.mem_of_getElem? hx
        simp only [List.mem_cons, List.not_mem_nil, or_false] at hm
        rcases hm with rfl | rfl | rfl | rfl
        · exact ⟨_, rfl, by decide +kernel, by decide +kernel, by decide +kernel⟩
        · exact ⟨_, rfl, by decide +kernel, by decide +kernel, by decide +kernel⟩
        · exact ⟨_, rfl, by decide +kernel, by decide +kernel, by decide +kernel⟩
        · exact ⟨_, rfl, by decide +kernel, by decide +kernel, by decide +kernel⟩
      obtain ⟨z, rfl, z0, z1, zc⟩ := hz
      have hi4 : i < 4 := (List.getElem?_eq_some_iff.mp hx).1
      refine ⟨rfl, ?_⟩
      unfold tYes
      dsimp only
      rw [if_pos rfl]
      refine ⟨_, rfl, _, rfl, p, z, rfl, mv.2.1, z0, z1, zc, fun t H3 b3 w3 p3 => ?_⟩
      have mv3 := mv.trans (Mv.but mv.2.1 mv.2.2 b3 w3)
      have e3 : H3 m2 = some (.lst (ts.map V.str)) := b3 _ _ et n2
      refine ⟨_, e3, by rw [List.length_map]; omega, mv3.put hm2 n2 e3, ts ++ [t], ?_, by rw [List.length_append, lt]; rfl, fun u hu => ?_⟩
      · rw [upd_same, List.map_append]
        rfl
      · rcases List.mem_append.mp hu with q | q
        · exact pt u q
        · rw [List.mem_singleton.mp q]; exact p3
    rintro H2 ⟨mv, ts, et, lt, pt⟩
    have n2 := well_ne k1.2.1 hm2
    have k2 := k1.trans mv
    clear mv s1 el
    -- two numbers
    refine ⟨_, rfl, p, 60, rfl, k2.2.1, by decide, by decide, fun ra H3 a0 a1 w3 b3 => ?_⟩
    have k3 := Mv.but k2.2.1 k2.2.2 b3 w3
    refine ⟨_, _, rfl, rfl, _, rfl, p, 30, rfl, w3, by decide, by decide, fun rb H4 c0 c1 w4 b4 => ⟨_, _, rfl, rfl, _, _, rfl, ?_⟩⟩
    have k4 := k3.trans (Mv.but k3.2.1 k3.2.2 b4 w4)
    have et4 : H4 m2 = some (.lst (ts.map V.str)) := k4.lst et n2
    clear b3 b4 k3
    obtain ⟨w4', hT4⟩ := k4.2
    -- six numbers and rows of numbers
    have cm : ∀ a b : Int, -100000 < a → a < 100000 → -100 < b → b < 100 → CMul a b := fun a b h1 h2 h3 h4 => .inr ⟨by omega, by omega⟩
    refine ⟨_, rfl, _, rfl, _, rfl, by show 2 ≤ sizeLine; omega, fun q1 h1 => ⟨_, rfl, _, _, rfl, rfl, cm _ _ (by omega) (by omega) (by omega) (by omega), _, rfl, _, _, rfl, rfl, cm _ _ (by omega) (by omega) (by omega) (by omega), by show 2 ≤ sizeLine; omega, fun q2 h2 => ⟨_, rfl, _, rfl, by show 3 ≤ sizeLine; omega, fun q3 h3 => ⟨_, _, rfl, rfl, ⟨by decide, by decide, by decide⟩, _, rfl, _, _, rfl, rfl, by show 2 ≤ sizeLine; omega, fun q4 h4 => ⟨_, rfl, by show 1 ≤ sizeLine; omega, fun q5 h5 => ⟨by show 6 ≤ sizeLine; omega, fun m5 h6 => ?_⟩⟩⟩⟩⟩⟩
    obtain ⟨r1, z1⟩ := upd2 (o := HO.tup [V.int (ra - 20), V.int (rb - 2)]) h1
    obtain ⟨r2, z2⟩ := upd2 (o := HO.tup [V.int ((ra - 20) * 6), V.int ((rb - 2) * 4)]) h2
    obtain ⟨r3, z3⟩ := upd2 (o := HO.tup [V.int (rb - 2), V.int (ra - 20), V.int 1]) h3
    obtain ⟨r4, z4⟩ := upd2 (o := HO.tup [V.int (10 ^ (40 : Int).toNat + (ra - 20)), V.int 7]) h4
    obtain ⟨r5, z5⟩ := upd2 (o := HO.lst [V.int (ra - 20)]) h5
    obtain ⟨r6, z6⟩ := upd2 (o := HO.lst [V.int (ra - 20), V.ref q1, V.ref q2, V.ref q3, V.ref q4, V.ref q5]) h6
    have y1 := (r2.trans (r3.trans (r4.trans (r5.trans r6)))) _ _ z1
    have y2 := (r3.trans (r4.trans (r5.trans r6))) _ _ z2
    have y3 := (r4.trans (r5.trans r6)) _ _ z3
    have y4 := (r5.trans r6) _ _ z4
    have y5 := r6 _ _ z5
    have rr := r1.trans (r2.trans (r3.trans (r4.trans (r5.trans r6))))
    have k5 := k4.trans (Mv.same w4' hT4 rr)
    have et5 := rr _ _ et4
    have lt4 : ts.length = 4 := lt
    refine ⟨_, rfl, _, rfl, m2, m5, _, _, rfl, rfl, et5, z6, by rw [List.length_map]; show _ + 6 ≤ sizeLine; omega, fun c1 hc1 => ?_⟩
    obtain ⟨r7, z7⟩ := upd2 (o := HO.lst (ts.map V.str ++ [V.int (ra - 20), V.ref q1, V.ref q2, V.ref q3, V.ref q4, V.ref q5])) hc1
    have k6 := k5.trans (Mv.same k5.2.1 k5.2.2 r7)
    have nc1 : c1 ≠ p := well_ne k5.2.1 hc1
    refine ⟨_, rfl, p, [], rfl, k6.2.1, (fun _ h => nomatch h), fun v d H6 b6 w6 od ok => ⟨by show 1 ≤ sizeLine; omega, fun c2 hc2 => ?_⟩⟩
    have k7 := k6.trans (Mv.but k6.2.1 k6.2.2 b6 w6)
    obtain ⟨r8, z8⟩ := upd2 (o := HO.lst [v]) hc2
    refine ⟨c1, c2, _, _, rfl, rfl, r8 _ _ (b6 _ _ z7 nc1), z8, by rw [List.length_append, List.length_map]; show _ + 6 + 1 ≤ sizeLine; omega, fun c3 hc3 => ?_⟩
    obtain ⟨r9, z9⟩ := upd2 (o := HO.lst (ts.map V.str ++ [V.int (ra - 20), V.ref q1, V.ref q2, V.ref q3, V.ref q4, V.ref q5] ++ [v])) hc3
    have k9 := k7.trans (Mv.same k7.2.1 k7.2.2 (r8.trans r9))
    have kG := (Mv.same k5.2.1 k5.2.2 r7).trans ((Mv.but k6.2.1 k6.2.2 b6 w6).trans (Mv.same k7.2.1 k7.2.2 (r8.trans r9)))
    have od9 := od.same (same_hide [p] (r8.trans r9))
    have et9 := kG.lst et5 n2
    have g1 := kG.1 _ _ y1 (well_ne w4' h1) (fun _ e => nomatch e)
    have g2 := kG.1 _ _ y2 (well_ne (w4'.same r1) h2) (fun _ e => nomatch e)
    have g3 := kG.1 _ _ y3 (well_ne (w4'.same (r1.trans r2)) h3) (fun _ e => nomatch e)
    have g4 := kG.1 _ _ y4 (well_ne (w4'.same (r1.trans (r2.trans r3))) h4) (fun _ e => nomatch e)
    have g5 := kG.1 _ _ y5 (well_ne (w4'.same (r1.trans (r2.trans (r3.trans r4)))) h5) (fun _ e => nomatch e)
    have nc3 : c3 ≠ p := well_ne (Well.same k7.2.1 r8) hc3
    clear kG r9 r8
    generalize upd (upd H6 c2 (.lst [v])) c3 (.lst (ts.map V.str ++ [V.int (ra - 20), V.ref q1, V.ref q2, V.ref q3, V.ref q4, V.ref q5] ++ [v])) = HF at *
    have els : ∀ x ∈ ts.map V.str ++ [V.int (ra - 20), V.ref q1, V.ref q2, V.ref q3, V.ref q4, V.ref q5] ++ [v], ∃ d, Od HF x d ∧ SmallB d ∧ GoodD d := fun x hx => by
      rcases List.mem_append.mp hx with hx | hx
      · rcases List.mem_append.mp hx with hx | hx
        · obtain ⟨t, ht, rfl⟩ := List.mem_map.mp hx
          have q := pt t ht
          exact ⟨_, .str t, trivial, Nat.le_trans q.1 (by decide), fun c hc => Nat.lt_trans (q.2 c hc) (by decide)⟩
        · simp only [List.mem_cons, List.not_mem_nil, or_false] at hx
          rcases hx with rfl | rfl | rfl | rfl | rfl | rfl
          · exact ⟨_, .int _, trivial, trivial⟩
          · exact ⟨_, .tup g1 (.cons (.int _) (.cons (.int _) .nil)), (by show rb - 2 ≤ 300; omega), trivial⟩
          · exact ⟨_, .tup g2 (.cons (.int _) (.cons (.int _) .nil)), (by show (rb - 2) * 4 ≤ 300; omega), trivial⟩
          · exact ⟨_, .tup g3 (.cons (.int _) (.cons (.int _) (.cons (.int _) .nil))), trivial, trivial⟩
          · exact ⟨_, .tup g4 (.cons (.int _) (.cons (.int _) .nil)), (by show (7 : Int) ≤ 300; decide), trivial⟩
          · exact ⟨_, .lst g5 (.cons (.int _) .nil), trivial, trivial⟩
      · rw [List.mem_singleton.mp hx]
        exact ⟨d, od9.same (hide_same _ _), small_of ok, good_of ok⟩
    refine ⟨c3, rfl, ⟨_, SqL.of z9⟩, for_list (K := K) (a := c3) (xs := ts.map V.str ++ [V.int (ra - 20), V.ref q1, V.ref q2, V.ref q3, V.ref q4, V.ref q5] ++ [v]) (fun i σ HC => Mv T p HF HC ∧ (∀ x ∈ ts.map V.str ++ [V.int (ra - 20), V.ref q1, V.ref q2, V.ref q3, V.ref q4, V.ref q5] ++ [v], ∃ d, Od HC x d ∧ SmallB d ∧ GoodD d) ∧ ∃ v6 : Option V, σ = [some (.ref p), some (.str "abcdefghijklmnopqrstuvwxyz"), some (.ref m2), some (.int (ra - 20)), some (.int (rb - 2)), some (.ref m5), v6, none, none, none, none, none, none, none, none])
      ⟨Mv.refl k9.2.1 k9.2.2, els, none, rfl⟩ (fun i σ HC _ q => SqL.of (q.1.lst z9 nc3)) ?_ ?_⟩
    · rintro i x σ HC hx ⟨mv, el, v6, rfl⟩
      obtain ⟨d', o', sb, gd⟩ := el x (List.mem_of_getElem? hx)
      refine ⟨_, rfl, x, d', rfl, o', sb, gd, mv.2.2, fun HD uD => ⟨_, rfl, iteF ?_⟩⟩
      refine ⟨mv.trans (Mv.up mv.2.1 mv.2.2 uD), fun y hy => ?_, _, rfl⟩
      obtain ⟨d2, o2, s2, g2'⟩ := el y hy
      exact ⟨d2, o2.stay (uD.stay mv.2.2), s2, g2'⟩
    rintro σ HC ⟨mv, el, v6, rfl⟩
    clear els el od9 g1 g2 g3 g4 g5 y1 y2 y3 y4 y5 z1 z2 z3 z4 z5 z6 z7 z8 rr r1 r2 r3 r4 r5 r6 r7 b6 od ok k6 k7
    have et10 := mv.lst et9 n2
    have k10 := k9.trans mv
    -- four paths
    refine ⟨_, rfl, m2, rfl, ⟨_, SqL.of et10⟩, fun m7 hm7 => lc_list (K := K) (a := m2) (xs := ts.map V.str) (fun i H2 => Mv T p HC H2 ∧ ∃ us : List Str, H2 m7 = some (.lst (us.map V.str)) ∧ us.length = i ∧ ∀ u ∈ us, isPath u = true ∧ u.length ≤ 30)
      ⟨Mv.same k10.2.1 k10.2.2 (same_upd hm7), [], upd_same, rfl, fun t h => nomatch h⟩ (fun i H2 _ q => SqL.of (q.1.lst et10 n2)) ?_ ?_⟩
    · rintro i x H2 hx ⟨mv2, us, eu, lu, pu⟩
      obtain ⟨t, ht, rfl⟩ := strs_in hx
      have q := pt t ht
      have n7 := well_ne k10.2.1 hm7
      have hi4 : i < 4 := by
        have := (List.getElem?_eq_some_iff.mp hx).1
        rw [List.length_map] at this
        omega
      have lt20 : t.cps.toList.length ≤ 20 := q.1
      refine ⟨rfl, ?_⟩
      unfold tYes
      dsimp only
      rw [if_pos rfl]
      refine ⟨⟨_, rfl⟩, _, rfl, t, rfl, fun D2 hD2 => lc_it (walk_str (z := t)) (Lk H2 D2 t.cps.toList (fun c => !decide (c ∈ SG))) ⟨same_upd hD2, upd_same⟩ (fun _ _ _ _ => trivial) ?_ ?_⟩
      · rintro j y H3 H4' hj s3 ⟨rfl, c, hc2, rfl⟩
        have hcl : t.cps.toList[j]? = some c := (Array.getElem?_toList (xs := t.cps) (i := j)).trans hc2
        exact ⟨rfl, _, rfl, rfl, c, SGs, rfl, rfl, _, rfl, ite2 (fun h => ⟨_, rfl, s3.yes hD2 hcl (by omega) (by show (!!decide (c ∈ SG)) = true; rw [show decide (c ∈ SG) = true from h]; rfl)⟩) (fun h => s3.no hcl (by show ¬ (!!decide (c ∈ SG)) = true; rw [Bool.not_not]; exact h))⟩
      · rintro H3 ⟨s3, hDs⟩
        have e : t.cps.toList.take t.cps.size = t.cps.toList := List.take_of_length_le (Nat.le_refl _)
        rw [e] at hDs
        have fc : ∀ c ∈ t.cps.toList.filter (fun c => !!decide (c ∈ SG)), c ∈ SG := fun c hc => by
          have := (List.mem_filter.mp hc).2
          rw [Bool.not_not] at this
          exact of_decide_eq_true this
        have fl : (t.cps.toList.filter (fun c => !!decide (c ∈ SG))).length ≤ 20 := Nat.le_trans (List.length_filter_le _ _) lt20
        generalize t.cps.toList.filter (fun c => !!decide (c ∈ SG)) = fs at *
        have ej : Txt.join "" (fs.map fun c => (⟨#[c]⟩ : Str)) = ⟨fs.toArray⟩ := by
          have e0 : ("" : Str) = ⟨#[]⟩ := by decide +kernel
          show Builtin.Str.glued _ _ = _
          rw [PySem.StrLaws.glued_eq_join, e0]
          exact PyProof.Rows.join_ones fs
        have ev : oneV fs = (fs.map fun c => (⟨#[c]⟩ : Str)).map V.str := by unfold oneV; rw [List.map_map]; rfl
        rw [ev] at hDs
        refine ⟨"", D2, fs.map fun c => (⟨#[c]⟩ : Str), rfl, rfl, .inl (SqL.of hDs), ?_, ?_⟩
        · have h1 : ((fs.map fun c => (⟨#[c]⟩ : Str)).map (·.length)).sum = fs.length := by
            clear ej ev hDs fc
            induction fs with
            | nil => rfl
            | cons c l ih =>
              have := ih (by simp only [List.length_cons] at fl; omega)
              simp only [List.map_cons, List.sum_cons, List.length_cons, this]
              show 1 + l.length = _
              omega
          have h2 : ("" : Str).length = 0 := by decide +kernel
          rw [h1, h2]
          omega
        · rw [ej]
          have eu2 : ("/" ++ (⟨fs.toArray⟩ : Str) : Str).cps.toList = 47 :: fs := by
            rw [tx_app, lit_slash]
            rfl
          have lu2 : ("/" ++ (⟨fs.toArray⟩ : Str) : Str).length ≤ 30 := by
            rw [PySem.Str.length_append]
            have e1 : ("/" : Str).length = 1 := by decide +kernel
            have e2 : (⟨fs.toArray⟩ : Str).length = fs.length := rfl
            omega
          have s47 : (47 : Nat) ∈ SG := by decide +kernel
          have pu2 : isPath ("/" ++ (⟨fs.toArray⟩ : Str) : Str) = true := by
            unfold isPath
            rw [eu2]
            simp only [List.all_cons, decide_eq_true s47, Bool.true_and]
            show (true && _) = true
            rw [Bool.true_and]
            exact List.all_eq_true.mpr fun c hc => decide_eq_true (fc c hc)
          have e3 := s3 _ _ eu
          refine ⟨_, _, rfl, rfl, by rw [PySem.Str.length_append] at lu2; omega, _, e3, by rw [List.length_map]; omega, (mv2.trans (Mv.same mv2.2.1 mv2.2.2 s3)).put hm7 n7 e3, us ++ [("/" ++ (⟨fs.toArray⟩ : Str) : Str)], ?_, by rw [List.length_append, lu]; rfl, fun u hu => ?_⟩
          · rw [upd_same, List.map_append]
            rfl
          · rcases List.mem_append.mp hu with z | z
            · exact pu u z
            · rw [List.mem_singleton.mp z]
              exact ⟨pu2, lu2⟩
    · rintro H2 ⟨mv2, us, eu, lu, pu⟩
      have k11 := k10.trans mv2
      have lu4 : us.length = 4 := by rw [lu, List.length_map]; exact lt4
      match us, lu4 with
      | [u0, u1, u2, u3], _ =>
        obtain ⟨i0, l0⟩ := pu u0 (by simp)
        obtain ⟨i1, l1⟩ := pu u1 (by simp)
        obtain ⟨i2, l2⟩ := pu u2 (by simp)
        have n7 := well_ne k10.2.1 hm7
        refine gn ?_
        dsimp only
        refine ⟨_, rfl, m7, _, 0, _, rfl, rfl, SqL.of eu, rfl, _, rfl, m7, _, 1, _, rfl, rfl, SqL.of eu, rfl, u0, u1, rfl, i0, i1, by omega, by omega, k11.2.2, fun H3 w3 => ⟨_, rfl, iteF ?_⟩⟩
        have k12 := k11.trans (Mv.up k11.2.1 k11.2.2 w3)
        have eu3 := (Mv.up k11.2.1 k11.2.2 w3).lst eu n7
        have c1 := cut_to u1 u2.length
        have lc := cutS_length u1 none (some (u2.length : Int))
        have ic : isPath (cutS u1 none (some (u2.length : Int))) = true := path_take i1 (path_pos i2) c1
        refine ⟨_, rfl, m7, _, 2, _, rfl, rfl, SqL.of eu3, rfl, _, rfl, m7, _, 1, _, rfl, rfl, SqL.of eu3, rfl, _, rfl, m7, _, 2, _, rfl, rfl, SqL.of eu3, rfl, _, rfl, by omega, _, rfl, u1, rfl, by omega, u2, _, rfl, i2, ic, by omega, by omega, k12.2.2, fun H4 w4 => ⟨_, rfl, iteF ?_⟩⟩
        have k13 := k12.trans (Mv.up k12.2.1 k12.2.2 w4)
        obtain ⟨w13, hT13⟩ := k13.2
        refine ⟨_, rfl, p, 5, rfl, w13, by decide, by decide, fun rn H5 n0 n1 w5 b5 => ⟨_, _, rfl, rfl, _, rfl, by omega, by omega, fun D hD => ?_⟩⟩
        have k14 := k13.trans (Mv.but w13 hT13 b5 w5)
        have nDp : D ≠ p := well_ne w5 hD
        refine lc_range (fun i Hx => Mv T p H5 Hx ∧ ∃ vs ds, Hx D = some (.lst vs) ∧ vs.length = i ∧ OdAll (hide Hx [p, D]) vs ds ∧ ∀ d ∈ ds, okB d = true)
          ⟨Mv.same k14.2.1 k14.2.2 (same_upd hD), [], [], upd_same, rfl, .nil, fun _ h => nomatch h⟩ ?_ ?_
        · rintro i Hx hi ⟨mv, vs, ds, ev, lv, ov, okv⟩
          refine ⟨rfl, ?_⟩
          unfold tYes
          dsimp only
          rw [if_pos rfl]
          refine ⟨_, rfl, p, [D], rfl, mv.2.1, fun x hx q => ?_, fun v d H6 b6 w6 od ok => ?_⟩
          · rw [List.mem_singleton.mp hx, ev] at q
            cases q
          have e6 := b6 _ _ ev nDp
          have mv6 := mv.trans (Mv.but mv.2.1 mv.2.2 b6 w6)
          refine ⟨_, e6, by omega, mv6.put hD nDp e6, _, ds ++ [d], upd_same, by rw [List.length_append, lv]; rfl, (ov.same (hide_up b6)).app (.cons (od.same (hide_up (But.refl _ _))) .nil), fun y hy => ?_⟩
          rcases List.mem_append.mp hy with z | z
          · exact okv y z
          · rw [List.mem_singleton.mp z]
            exact ok
        rintro Hx ⟨mv, vs, ds, ev, lv, ov, okv⟩
        have lds := ov.len
        refine ⟨D, vs, rfl, .inl ⟨SqL.of ev, fun R hR => gn ?_⟩⟩
        dsimp only
        have s7 := same_upd (o := HO.tup vs) hR
        have k15 := k14.trans (mv.trans (Mv.same mv.2.1 mv.2.2 s7))
        have nRp : R ≠ p := well_ne mv.2.1 hR
        have eR : upd Hx R (.tup vs) R = some (.tup vs) := upd_same
        have ov7 := (ov.same hide_one).same (same_hide [p] s7)
        generalize upd Hx R (.tup vs) = H7 at *
        refine ⟨_, rfl, _, rfl, R, vs, rfl, .inr (SqT.of eR), p, (vs.length : Int), rfl, k15.2.1, by omega, by omega, fun rq H8 q0 q1 w8 b8 => ?_⟩
        have k16 := k15.trans (Mv.but k15.2.1 k15.2.2 b8 w8)
        have eR8 := b8 _ _ eR nRp
        have ov8 := (ov7.same (hide_but b8)).same (hide_same _ _)
        obtain ⟨f1, f2, f3⟩ := tup_facts okv (by omega)
        refine ⟨_, rfl, _, _, rfl, (Od.tup eR8 ov8).dq, f1, f2, f3, _, _, rfl, ?_⟩
        obtain ⟨j, rfl⟩ : ∃ j : Nat, rq = (j : Int) := ⟨rq.toNat, by omega⟩
        have hj : j < vs.length := by omega
        have okz : ∀ d ∈ ds.take j ++ [PyData.int (ra - 20)] ++ ds.drop (j + 1), okB d = true := fun d hd => by
          rcases List.mem_append.mp hd with z | z
          · rcases List.mem_append.mp z with z | z
            · exact okv d (List.mem_of_mem_take z)
            · rw [List.mem_singleton.mp z]
              exact okB_int a0 a1
          · exact okv d (List.mem_of_mem_drop z)
        have lz : (ds.take j ++ [PyData.int (ra - 20)] ++ ds.drop (j + 1)).length ≤ 8 := by
          rw [List.length_append, List.length_append, List.length_take, List.length_drop, List.length_singleton]
          omega
        obtain ⟨g1, g2, g3⟩ := tup_facts okz lz
        have ovz : OdAll H8 (vs.take j ++ [V.int (ra - 20)] ++ vs.drop (j + 1)) (ds.take j ++ [PyData.int (ra - 20)] ++ ds.drop (j + 1)) := ((ov8.take j).app (.cons (.int _) .nil)).app (ov8.drop (j + 1))
        refine ⟨_, rfl, _, rfl, _, rfl, R, vs, j, .int (ra - 20), rfl, eR8, hj, by omega, fun p1 H9 s9 e9 => ⟨_, _, rfl, (Od.tup e9 (ovz.same s9)).dq, g1, g2, g3, ?_⟩⟩
        refine splice (fun H' Q' q => ⟨_, rfl, q⟩) (fun H' Q' q => ⟨_, rfl, q⟩) (fun H' Q' q => ⟨_, rfl, q⟩) (fun H' Q' q => ⟨_, rfl, _, _, rfl, rfl, q⟩) (s9 _ _ eR8) hj (by omega) fun p2 H10 s10 e10 => ⟨_, _, rfl, (Od.tup e10 (ovz.same (s9.trans s10))).dq, g1, g2, g3, rfl, _, rfl, ite2 (fun h => ?_) (fun _ => ?_)⟩
        · rw [decide_eq_true rfl] at h
          cases h
        have s10' := s9.trans s10
        refine ⟨_, rfl, _, _, rfl, (Od.tup (s10' _ _ eR8) (ov8.same s10')).dq, f1, f2, f3, _, rfl, rfl, _, rfl, ite2 (fun h => ?_) (fun _ => ?_)⟩
        · rw [decide_eq_true rfl] at h
          cases h
        refine ⟨rfl, _, _, rfl, .str SGs, by decide +kernel, by decide +kernel, by decide +kernel, rfl, _, _, rfl, .str SGs, by decide +kernel, by decide +kernel, by decide +kernel, rfl, ?_⟩
        show Q (.bl (decide (V.str _ = V.str _))) _
        rw [decide_eq_true rfl]
        exact k _ (k2.trans (k16.trans (Mv.same k16.2.1 k16.2.2 s10')))
end
end KP

set_option Elab.async false
set_option maxRecDepth 100000
set_option maxHeartbeats 4000000
set_option linter.all false
/-! Ours: the law. -/
namespace KP
open PySem PySem.Spec PyProof.Rows L2 Gr GxR
theorem wipe1 {σ : L2.St} {j : Nat} {v : Option V} : wipe ((wipe σ [j]).set j v) [j] = wipe σ [j] := by simp [wipe]
theorem sql_stay {K : PySem.W.Frag} {H H' : Hp} {a : Addr} {xs : List V} (s : Stay H H') (h : SqL K H a xs) : SqL K H' a xs := by
  rcases h with (h | ⟨o, h⟩) | h
  · exact .inl (.inl (s _ _ h fun _ q => nomatch q))
  · exact .inl (.inr ⟨o, s _ _ h fun _ q => nomatch q⟩)
  · exact .inr h
theorem all_true : ∀ n, (List.replicate n true).all id = true
  | 0 => rfl
  | n + 1 => by
    rw [List.replicate_succ, List.all_cons, all_true n]
    rfl
def spLaw {K : PySem.W.Frag} {mg : Str → Option Value} (T : D K mg) : Sp := fun vs H Q _ => ∃ (a : Addr) (ns : List Int), vs = [.ref a] ∧ SqL K H a (ns.map V.int) ∧ ns.length ≤ 63 ∧ TT3 T H ∧ ∀ H', Q (.bl true) H'
section
variable {P : Program} {w : World} {K : PySem.W.Frag} {mg : Str → Option Value} {base : Heap}
theorem sc_law : FnScope ["_law_script", "_law_turn"] ["_law_script"] (defScope s_law) := ⟨rfl, rfl, rfl, by decide +kernel, rfl, by decide +kernel, by decide +kernel⟩
theorem ok_law (T : D K mg) (TB : Tabs base T) (hM : SysM K) : FnQ P w K mg base CX0 7 T.f_law T.d_law ["_law_script"] (spLaw T) := by
  refine funQ T.U_law sc_law (fun vs H Q E h => ?_) (fun cdv A outer s H vs Q E hgu hr h => ?_)
  · obtain ⟨a, ns, rfl, _⟩ := h
    rfl
  · obtain ⟨a, ns, rfl, hS, hl, hT, k⟩ := h
    have nd := sc_law.nd
    have GR : FnQ P w K mg base CX0 6 T.f_l_right T.d_l_right ["_law_well_here"] (spRight T) := ok_l_right T TB hM
    refine ⟨_, pss_one (ps_ret (pe_callB (cr_all rfl) (by rfl) T.all boot_all (pa_cons (pe_lc (own := [("_law_turn", 1)]) (g := gName 1) (tt := tYes) rfl nd (pi_range1 rfl T.range (pa_cons (pe_callB (call_max2 rfl) (by rfl) T.max boot_max (pa_cons pe_int (pa_cons (pe_callB (call_min2 rfl) (by rfl) T.min boot_min (pa_cons (pe_callB call_len_seq (by rfl) T.len PySem.boot_len (pa_cons (pv 0) pa_nil)) (pa_cons pe_int pa_nil))) pa_nil))) pa_nil)) (blkOk_by (N := ["_law_script", "_law_turn"]) (sc := defScope s_law) (by decide +kernel)) (fun _ _ _ _ _ => pg_name (i := 1) nd rfl (.inl rfl)) (fun _ _ _ _ _ => pts_nil) (fun _ _ _ _ _ => pe_callQ hgu GR hr rfl T.g_l_right T.U_l_right.kp T.b_l_right .nil pass0 (pa_cons (pe_call (ok_l_well T) (hr.mono (by decide)) rfl T.g_l_well T.U_l_well.kp T.b_l_well .nil pass0 (pa_cons (pv 0) (pa_cons (pv 1) pa_nil))) pa_nil))) pa_nil))), ?_⟩
    refine ⟨_, rfl, a, _, rfl, .inl hS, _, _, rfl, _, _, rfl, _, rfl, ?_, ?_, fun D hD => lc_range (n := _) (fun n H2 => Stay H H2 ∧ TT3 T H2 ∧ H2 D = some (.lst ((List.replicate n true).map V.bl))) ⟨fun x o e _ => same_upd hD x o e, TT3.same hT (same_upd hD), upd_same⟩ ?_ ?_⟩
    · split <;> split <;> omega
    · split <;> split <;> omega
    · rintro n H2 hn ⟨s2, t2, hDn⟩
      refine ⟨wipe1, ?_⟩
      unfold tYes
      dsimp only
      rw [if_pos rfl]
      have hn6 : n < 63 := by
        refine Nat.lt_of_lt_of_le hn ?_
        split <;> split <;> omega
      refine ⟨_, rfl, _, rfl, a, ns, (n : Int), ?_, sql_stay s2 hS, by omega, by omega, fun q H3 hq hw s3 => ⟨q, rfl, hw, TT3.same t2 s3, fun H4 mv => ?_⟩⟩
      · rw [Int.zero_add]
        rfl
      · have s4 : Stay H2 H4 := fun b o e m => mv.1 b o (s3 b o e) (ne_of_none e hq) m
        refine ⟨_, s4 _ _ hDn (fun _ q => nomatch q), ?_, ?_, ?_, ?_⟩
        · rw [List.length_map, List.length_replicate, sizeLine_eq]
          omega
        · intro b o e m
          rw [upd_ne (ne_of_none e hD)]
          exact s4 _ _ (s2 _ _ e m) m
        · have nD : ∀ P : Addr, TabG H4 P → D ≠ P := fun P ⟨ps, e, _⟩ z => by
            rw [← z, s4 _ _ hDn (fun _ q => nomatch q)] at e
            cases e
          obtain ⟨⟨p1, e1, x1⟩, ⟨p2, e2, x2⟩, ⟨p3, e3, x3⟩⟩ := mv.2.2
          exact ⟨⟨p1, (upd_ne (Ne.symm (nD _ ⟨p1, e1, x1⟩))).trans e1, x1⟩, ⟨p2, (upd_ne (Ne.symm (nD _ ⟨p2, e2, x2⟩))).trans e2, x2⟩, ⟨p3, (upd_ne (Ne.symm (nD _ ⟨p3, e3, x3⟩))).trans e3, x3⟩⟩
        · rw [upd_same, List.replicate_succ', List.map_append]
          rfl
    · rintro H2 ⟨s2, t2, hDn⟩
      refine ⟨D, _, rfl, SqL.of hDn, ?_⟩
      rw [all_true]
      exact k _
end
end KP

set_option Elab.async false
set_option maxRecDepth 100000
set_option maxHeartbeats 8000000
set_option linter.all false
namespace KP
open PySem PySem.Spec PyProof.Rows L2 Gr GxR PySem.W
/-! what is asked of the written part -/
def hasRef : Option Value → Addr → Bool
  | some (.ref a), q => a == q
  | _, _ => false
def isStrV : Value → Bool
  | .str _ _ => true
  | _ => false
def isIntV : Value → Bool
  | .int _ _ => true
  | _ => false
def isBoolV : Value → Bool
  | .bool _ => true
  | _ => false
def hdB (K : Frag) (c q : Addr) : Bool := match K.lookup c with
  | some ⟨.type n, _, .fields vs, _⟩ => n == "code" && (hasRef vs[11]? q && (isStrV (vs.getD 18 .none) && (isIntV (vs.getD 7 .none) && (isBoolV (vs.getD 9 .none) && isIntV (vs.getD 10 .none)))))
  | _ => false
theorem hdB_ok {K : Frag} {h : Heap} {c q : Addr} (X : K.In h) (n : c ≠ q) (e : hdB K c q = true) : CodeHd h c q := by
  unfold hdB at e
  split at e
  · rename_i nm od vs sl hk
    simp only [Bool.and_eq_true, beq_iff_eq] at e
    obtain ⟨rfl, e1, e2, e3, e4, e5⟩ := e
    have r : vs[11]? = some (.ref q) := by
      cases hv : vs[11]? with
      | none => rw [hv] at e1; cases e1
      | some v =>
        rw [hv] at e1
        cases v with
        | ref a =>
          have : (a == q) = true := e1
          rw [beq_iff_eq.mp this]
        | _ => cases e1
    have r2 : vs.getD 11 .none = .ref q := by rw [Array.getD_eq_getD_getElem?, r]; rfl
    generalize h18 : vs.getD 18 .none = v18 at e2
    generalize h7 : vs.getD 7 .none = v7 at e3
    generalize h9 : vs.getD 9 .none = v9 at e4
    generalize h10 : vs.getD 10 .none = v10 at e5
    cases v18 <;> first | cases e2 | skip
    cases v7 <;> first | cases e3 | skip
    cases v9 <;> first | cases e4 | skip
    cases v10 <;> first | cases e5 | skip
    exact ⟨_, vs, _, _, _, _, _, _, _, X _ _ hk, rfl, rfl, r, r2, h18, h7, h9, h10, n⟩
  · cases e
theorem rangeOf {k : Nat} {t : Nat → Bool} (h : (List.range k).all t = true) {n : Nat} (hn : n < k) : t n = true := List.all_eq_true.mp h n (List.mem_range.mpr hn)
def bis : List Str := ("abs" : Str) :: ("all" : Str) :: ("bool" : Str) :: ("divmod" : Str) :: ("int" : Str) :: ("isinstance" : Str) :: ("len" : Str) :: ("max" : Str) :: ("min" : Str) :: ("range" : Str) :: ("repr" : Str) :: ("str" : Str) :: ("tuple" : Str) :: []
def chkN (K : Frag) : Bool := (List.range 13).all fun n => decide (nsIn K mainGlobals (bis.getD n "") = some none)
theorem nameN {K : Frag} {h : Heap} {mg : Str → Option Value} (X : K.In h) (G : h.Ns mainGlobals mg) (c : chkN K = true) (n : Nat) (hn : n < 13) : mg (bis.getD n "") = none := mg_none_of X G (of_decide_eq_true (rangeOf c hn))
def fnm : List Str := ("is_name" : Str) :: ("is_path" : Str) :: ("check_path" : Str) :: ("signs_of_paths" : Str) :: ("is_lesser" : Str) :: ("is_whole" : Str) :: ("is_between" : Str) :: ("is_fraction" : Str) :: ("is_tuple" : Str) :: ("put_at" : Str) :: ("is_pattern" : Str) :: ("_law_well" : Str) :: ("_law_pick" : Str) :: ("_law_one" : Str) :: ("_law_signs" : Str) :: ("_law_is_whole" : Str) :: ("_law_odd" : Str) :: ("_law_is_name" : Str) :: ("_law_is_path" : Str) :: ("_law_is_pattern" : Str) :: ("_law_lesser" : Str) :: ("_law_divisor" : Str) :: ("_law_is_fraction" : Str) :: ("_law_text" : Str) :: ("_law_value_right" : Str) :: ("_law_order_right" : Str) :: ("_law_right" : Str) :: ("law" : Str) :: []
def fad : List Addr := [81, 88, 95, 102, 109, 116, 123, 130, 137, 144, 151, 158, 165, 172, 179, 186, 193, 198, 203, 208, 213, 220, 227, 234, 241, 248, 253, 258]
def chkF (K : Frag) : Bool := (List.range 28).all fun n => decide (nsIn K mainGlobals (fnm.getD n "") = some (some (.ref (fad.getD n 0)))) && keepIn K (.ref (fad.getD n 0))
theorem nameF {K : Frag} {h : Heap} {mg : Str → Option Value} (X : K.In h) (G : h.Ns mainGlobals mg) (c : chkF K = true) (n : Nat) (hn : n < 28) : mg (fnm.getD n "") = some (.ref (fad.getD n 0)) ∧ keepIn K (.ref (fad.getD n 0)) = true := by
  have q := rangeOf c hn
  simp only [Bool.and_eq_true, decide_eq_true_eq] at q
  exact ⟨mg_of X G q.1, q.2⟩
def chkS (K : Frag) : Bool := match K.lookup sysModules with
  | some ⟨_, _, .dict _ _, _⟩ => true
  | _ => false
theorem sysM_of {K : Frag} (h : chkS K = true) : SysM K := by
  unfold chkS at h
  split at h
  · rename_i es n _ q
    exact ⟨_, es, n, q, rfl⟩
  · cases h
theorem fun_mkS {K K0 : Frag} {x qual : Str} {st : Stmt} {f : Addr} {oc : Value} {od an : Option Addr} {osl : Array (Option Value)} {kV doc pm cdv ct : Value} (hK : ∀ b, b ≠ sysModules → K.lookup b = K0.lookup b) (ne : f ≠ sysModules)
    (l : K0.lookup f = some ⟨oc, od, .func (fnOf x qual (defArgs st) (defBody st) (defScope st) .none kV doc pm an cdv ct), osl⟩) (c : codeIn K cdv qual = true) : ∃ fd, keepIn K (.ref f) = true → Fun K x qual st f fd :=
  ⟨_, fun k => fun_mk ((hK _ ne).trans l) c k⟩
theorem fun_mkC {K K0 : Frag} {x qual : Str} {st : Stmt} {f c : Addr} {oc : Value} {od an : Option Addr} {osl : Array (Option Value)} {kV doc pm ct : Value} (hK : ∀ b, b ≠ sysModules → K.lookup b = K0.lookup b) (ne : f ≠ sysModules)
    (l : K0.lookup f = some ⟨oc, od, .func (fnOf x qual (defArgs st) (defBody st) (defScope st) .none kV doc pm an (.ref c) ct), osl⟩) (cc : codeIn K (.ref c) qual = true) : ∃ fd, keepIn K (.ref f) = true → FunC K x qual st f fd c :=
  ⟨_, fun k => ⟨⟨oc, od, kV, doc, pm, an, ct, osl, rfl, (hK _ ne).trans l, cc⟩, k⟩⟩
def chkInt (K : Frag) (x : Str) (n : Int) : Bool := match nsIn K mainGlobals x with
  | some (some (.int m _)) => m == n
  | _ => false
def chkStr (K : Frag) (x : Str) (n : Str) : Bool := match nsIn K mainGlobals x with
  | some (some (.str m _)) => m == n
  | _ => false
theorem int_of {K : Frag} {x : Str} {n : Int} (h : chkInt K x n = true) : ∃ t, nsIn K mainGlobals x = some (some (.int n t)) := by
  unfold chkInt at h
  split at h
  · rename_i m t q
    exact ⟨t, by rw [q, beq_iff_eq.mp h]⟩
  · cases h
theorem str_of {K : Frag} {x : Str} {n : Str} (h : chkStr K x n = true) : ∃ t, nsIn K mainGlobals x = some (some (.str n t)) := by
  unfold chkStr at h
  split at h
  · rename_i m t q
    exact ⟨t, by rw [q, beq_iff_eq.mp h]⟩
  · cases h
/-- all that is asked of the written part -/
structure Facts (K : Frag) : Prop where
  n : chkN K = true
  f : chkF K = true
  s : chkS K = true
  k0 : chkStr K "LETTERS" "abcdefghijklmnopqrstuvwxyz" = true
  k1 : chkStr K "SIGNS" "-./0123456789_abcdefghijklmnopqrstuvwxyz" = true
  k2 : chkInt K "LONGEST_NAME" 12 = true
  k3 : chkInt K "LONGEST_PATTERN" 12 = true
  i0 : nsIn K mainGlobals "gcd" = some (some (.builtin "math.gcd"))
  d0 : ∃ fd, keepIn K (.ref 81) = true → FunC K "is_name" "is_name" s_is_name 81 fd 80
  t0 : hdB K 80 76 = true
  o0 : (K.lookup 76).isNone = true
  d1 : ∃ fd, keepIn K (.ref 88) = true → FunC K "is_path" "is_path" s_is_path 88 fd 87
  t1 : hdB K 87 83 = true
  o1 : (K.lookup 83).isNone = true
  d2 : ∃ fd, keepIn K (.ref 95) = true → Fun K "check_path" "check_path" s_check_path 95 fd
  d3 : ∃ fd, keepIn K (.ref 102) = true → Fun K "signs_of_paths" "signs_of_paths" s_signs_of_paths 102 fd
  d4 : ∃ fd, keepIn K (.ref 109) = true → Fun K "is_lesser" "is_lesser" s_is_lesser 109 fd
  d5 : ∃ fd, keepIn K (.ref 116) = true → Fun K "is_whole" "is_whole" s_is_whole 116 fd
  d6 : ∃ fd, keepIn K (.ref 123) = true → Fun K "is_between" "is_between" s_is_between 123 fd
  d7 : ∃ fd, keepIn K (.ref 130) = true → Fun K "is_fraction" "is_fraction" s_is_fraction 130 fd
  d8 : ∃ fd, keepIn K (.ref 137) = true → Fun K "is_tuple" "is_tuple" s_is_tuple 137 fd
  d9 : ∃ fd, keepIn K (.ref 144) = true → Fun K "put_at" "put_at" s_put_at 144 fd
  d10 : ∃ fd, keepIn K (.ref 151) = true → FunC K "is_pattern" "is_pattern" s_is_pattern 151 fd 150
  t10 : hdB K 150 146 = true
  o10 : (K.lookup 146).isNone = true
  d11 : ∃ fd, keepIn K (.ref 158) = true → Fun K "_law_well" "_law_well" s_l_well 158 fd
  d12 : ∃ fd, keepIn K (.ref 165) = true → Fun K "_law_pick" "_law_pick" s_l_pick 165 fd
  d13 : ∃ fd, keepIn K (.ref 172) = true → Fun K "_law_one" "_law_one" s_l_one 172 fd
  d14 : ∃ fd, keepIn K (.ref 179) = true → Fun K "_law_signs" "_law_signs" s_l_signs 179 fd
  d15 : ∃ fd, keepIn K (.ref 186) = true → Fun K "_law_is_whole" "_law_is_whole" s_l_is_whole 186 fd
  d16 : ∃ fd, keepIn K (.ref 193) = true → Fun K "_law_odd" "_law_odd" s_l_odd 193 fd
  d17 : ∃ fd, keepIn K (.ref 198) = true → Fun K "_law_is_name" "_law_is_name" s_l_is_name 198 fd
  d18 : ∃ fd, keepIn K (.ref 203) = true → Fun K "_law_is_path" "_law_is_path" s_l_is_path 203 fd
  d19 : ∃ fd, keepIn K (.ref 208) = true → Fun K "_law_is_pattern" "_law_is_pattern" s_l_is_pattern 208 fd
  d20 : ∃ fd, keepIn K (.ref 213) = true → Fun K "_law_lesser" "_law_lesser" s_l_lesser 213 fd
  d21 : ∃ fd, keepIn K (.ref 220) = true → Fun K "_law_divisor" "_law_divisor" s_l_divisor 220 fd
  d22 : ∃ fd, keepIn K (.ref 227) = true → Fun K "_law_is_fraction" "_law_is_fraction" s_l_is_fraction 227 fd
  d23 : ∃ fd, keepIn K (.ref 234) = true → Fun K "_law_text" "_law_text" s_l_text 234 fd
  d24 : ∃ fd, keepIn K (.ref 241) = true → Fun K "_law_value_right" "_law_value_right" s_l_value_right 241 fd
  d25 : ∃ fd, keepIn K (.ref 248) = true → Fun K "_law_order_right" "_law_order_right" s_l_order_right 248 fd
  d26 : ∃ fd, keepIn K (.ref 253) = true → Fun K "_law_right" "_law_right" s_l_right 253 fd
  d27 : ∃ fd, keepIn K (.ref 258) = true → Fun K "law" "law" s_law 258 fd
theorem all_ok {P : Program} {w : World} {K : Frag} {h : Heap} {mg : Str → Option Value} {fa : Addr} (Z : Facts K) (X : K.In h) (G : h.Ns mainGlobals mg) (hfa : mg "law" = some (.ref fa)) (h76 : h.get? 76 = some (tabO #[])) (h83 : h.get? 83 = some (tabO #[])) (h146 : h.get? 146 = some (tabO #[])) :
    ∃ (fd : FuncData) (cs : List (Addr × Addr)) (sp : Sp), (∀ p ∈ cs, h.get? p.2 = some (tabO #[])) ∧ (∀ p ∈ cs, K.lookup p.2 = none) ∧ (∀ p ∈ cs, CodeHd h p.1 p.2) ∧ (∀ (s : Shared) (u : Value), BindsTo s fd ⟨[u], []⟩ [("_law_script", u)]) ∧
      (∀ (H : Hp) (a : Addr) (ns : List Int), ns.length ≤ 63 → (∀ p ∈ cs, H p.2 = some (.tbl #[])) → SqL K H a (ns.map V.int) → sp [.ref a] H (fun v _ => v = .bl true) fun _ _ _ => False) ∧
      ∀ base : Heap, K.In base → base.Ns mainGlobals mg → (∀ p ∈ cs, TabB base mg p.1 p.2) → FnQ P w K mg base CX0 7 fa fd ["_law_script"] sp := by
  have nf := nameF X G Z.f
  have nn := nameN X G Z.n
  have e := hfa.symm.trans (nf 27 (by decide)).1
  cases e
  obtain ⟨z0, u0⟩ := Z.d0
  have u0 := u0 (nf 0 (by decide)).2
  obtain ⟨z1, u1⟩ := Z.d1
  have u1 := u1 (nf 1 (by decide)).2
  obtain ⟨z2, u2⟩ := Z.d2
  have u2 := u2 (nf 2 (by decide)).2
  obtain ⟨z3, u3⟩ := Z.d3
  have u3 := u3 (nf 3 (by decide)).2
  obtain ⟨z4, u4⟩ := Z.d4
  have u4 := u4 (nf 4 (by decide)).2
  obtain ⟨z5, u5⟩ := Z.d5
  have u5 := u5 (nf 5 (by decide)).2
  obtain ⟨z6, u6⟩ := Z.d6
  have u6 := u6 (nf 6 (by decide)).2
  obtain ⟨z7, u7⟩ := Z.d7
  have u7 := u7 (nf 7 (by decide)).2
  obtain ⟨z8, u8⟩ := Z.d8
  have u8 := u8 (nf 8 (by decide)).2
  obtain ⟨z9, u9⟩ := Z.d9
  have u9 := u9 (nf 9 (by decide)).2
  obtain ⟨z10, u10⟩ := Z.d10
  have u10 := u10 (nf 10 (by decide)).2
  obtain ⟨z11, u11⟩ := Z.d11
  have u11 := u11 (nf 11 (by decide)).2
  obtain ⟨z12, u12⟩ := Z.d12
  have u12 := u12 (nf 12 (by decide)).2
  obtain ⟨z13, u13⟩ := Z.d13
  have u13 := u13 (nf 13 (by decide)).2
  obtain ⟨z14, u14⟩ := Z.d14
  have u14 := u14 (nf 14 (by decide)).2
  obtain ⟨z15, u15⟩ := Z.d15
  have u15 := u15 (nf 15 (by decide)).2
  obtain ⟨z16, u16⟩ := Z.d16
  have u16 := u16 (nf 16 (by decide)).2
  obtain ⟨z17, u17⟩ := Z.d17
  have u17 := u17 (nf 17 (by decide)).2
  obtain ⟨z18, u18⟩ := Z.d18
  have u18 := u18 (nf 18 (by decide)).2
  obtain ⟨z19, u19⟩ := Z.d19
  have u19 := u19 (nf 19 (by decide)).2
  obtain ⟨z20, u20⟩ := Z.d20
  have u20 := u20 (nf 20 (by decide)).2
  obtain ⟨z21, u21⟩ := Z.d21
  have u21 := u21 (nf 21 (by decide)).2
  obtain ⟨z22, u22⟩ := Z.d22
  have u22 := u22 (nf 22 (by decide)).2
  obtain ⟨z23, u23⟩ := Z.d23
  have u23 := u23 (nf 23 (by decide)).2
  obtain ⟨z24, u24⟩ := Z.d24
  have u24 := u24 (nf 24 (by decide)).2
  obtain ⟨z25, u25⟩ := Z.d25
  have u25 := u25 (nf 25 (by decide)).2
  obtain ⟨z26, u26⟩ := Z.d26
  have u26 := u26 (nf 26 (by decide)).2
  obtain ⟨z27, u27⟩ := Z.d27
  have u27 := u27 (nf 27 (by decide)).2
  obtain ⟨w0, y0⟩ := str_of Z.k0
  obtain ⟨w1, y1⟩ := str_of Z.k1
  obtain ⟨w2, y2⟩ := int_of Z.k2
  obtain ⟨w3, y3⟩ := int_of Z.k3
  let T : D K mg :=
   {
    f_is_name := 81,
    d_is_name := z0,
    c_is_name := 80,
    P_is_name := 76,
    V_is_name := u0,
    g_is_name := (nf 0 (by decide)).1,
    f_is_path := 88,
    d_is_path := z1,
    c_is_path := 87,
    P_is_path := 83,
    V_is_path := u1,
    g_is_path := (nf 1 (by decide)).1,
    f_check_path := 95,
    d_check_path := z2,
    U_check_path := u2,
    g_check_path := (nf 2 (by decide)).1,
    f_signs_of_paths := 102,
    d_signs_of_paths := z3,
    U_signs_of_paths := u3,
    g_signs_of_paths := (nf 3 (by decide)).1,
    f_is_lesser := 109,
    d_is_lesser := z4,
    U_is_lesser := u4,
    g_is_lesser := (nf 4 (by decide)).1,
    f_is_whole := 116,
    d_is_whole := z5,
    U_is_whole := u5,
    g_is_whole := (nf 5 (by decide)).1,
    f_is_between := 123,
    d_is_between := z6,
    U_is_between := u6,
    g_is_between := (nf 6 (by decide)).1,
    f_is_fraction := 130,
    d_is_fraction := z7,
    U_is_fraction := u7,
    g_is_fraction := (nf 7 (by decide)).1,
    f_is_tuple := 137,
    d_is_tuple := z8,
    U_is_tuple := u8,
    g_is_tuple := (nf 8 (by decide)).1,
    f_put_at := 144,
    d_put_at := z9,
    U_put_at := u9,
    g_put_at := (nf 9 (by decide)).1,
    f_is_pattern := 151,
    d_is_pattern := z10,
    c_is_pattern := 150,
    P_is_pattern := 146,
    V_is_pattern := u10,
    g_is_pattern := (nf 10 (by decide)).1,
    f_l_well := 158,
    d_l_well := z11,
    U_l_well := u11,
    g_l_well := (nf 11 (by decide)).1,
    f_l_pick := 165,
    d_l_pick := z12,
    U_l_pick := u12,
    g_l_pick := (nf 12 (by decide)).1,
    f_l_one := 172,
    d_l_one := z13,
    U_l_one := u13,
    g_l_one := (nf 13 (by decide)).1,
    f_l_signs := 179,
    d_l_signs := z14,
    U_l_signs := u14,
    g_l_signs := (nf 14 (by decide)).1,
    f_l_is_whole := 186,
    d_l_is_whole := z15,
    U_l_is_whole := u15,
    g_l_is_whole := (nf 15 (by decide)).1,
    f_l_odd := 193,
    d_l_odd := z16,
    U_l_odd := u16,
    g_l_odd := (nf 16 (by decide)).1,
    f_l_is_name := 198,
    d_l_is_name := z17,
    U_l_is_name := u17,
    g_l_is_name := (nf 17 (by decide)).1,
    f_l_is_path := 203,
    d_l_is_path := z18,
    U_l_is_path := u18,
    g_l_is_path := (nf 18 (by decide)).1,
    f_l_is_pattern := 208,
    d_l_is_pattern := z19,
    U_l_is_pattern := u19,
    g_l_is_pattern := (nf 19 (by decide)).1,
    f_l_lesser := 213,
    d_l_lesser := z20,
    U_l_lesser := u20,
    g_l_lesser := (nf 20 (by decide)).1,
    f_l_divisor := 220,
    d_l_divisor := z21,
    U_l_divisor := u21,
    g_l_divisor := (nf 21 (by decide)).1,
    f_l_is_fraction := 227,
    d_l_is_fraction := z22,
    U_l_is_fraction := u22,
    g_l_is_fraction := (nf 22 (by decide)).1,
    f_l_text := 234,
    d_l_text := z23,
    U_l_text := u23,
    g_l_text := (nf 23 (by decide)).1,
    f_l_value_right := 241,
    d_l_value_right := z24,
    U_l_value_right := u24,
    g_l_value_right := (nf 24 (by decide)).1,
    f_l_order_right := 248,
    d_l_order_right := z25,
    U_l_order_right := u25,
    g_l_order_right := (nf 25 (by decide)).1,
    f_l_right := 253,
    d_l_right := z26,
    U_l_right := u26,
    g_l_right := (nf 26 (by decide)).1,
    f_law := 258,
    d_law := z27,
    U_law := u27,
    g_law := (nf 27 (by decide)).1,
    t_LETTERS := w0,
    g_LETTERS := mg_of X G y0,
    t_SIGNS := w1,
    g_SIGNS := mg_of X G y1,
    t_LONGEST_NAME := w2,
    g_LONGEST_NAME := mg_of X G y2,
    t_LONGEST_PATTERN := w3,
    g_LONGEST_PATTERN := mg_of X G y3,
    i_gcd := mg_of X G Z.i0,
    abs := nn 0 (by decide),
    all := nn 1 (by decide),
    bool := nn 2 (by decide),
    divmod := nn 3 (by decide),
    int := nn 4 (by decide),
    isinstance := nn 5 (by decide),
    len := nn 6 (by decide),
    max := nn 7 (by decide),
    min := nn 8 (by decide),
    range := nn 9 (by decide),
    repr := nn 10 (by decide),
    str := nn 11 (by decide),
    tuple := nn 12 (by decide) }
  refine ⟨T.d_law, [(80, 76), (87, 83), (150, 146)], spLaw T, ?_, ?_, ?_, ?_, ?_, fun base _ _ TB => ok_law T ⟨TB (87, 83) (by simp), TB (150, 146) (by simp), TB (80, 76) (by simp)⟩ (sysM_of Z.s)⟩
  · intro p hp
    simp only [List.mem_cons, List.not_mem_nil, or_false] at hp
    rcases hp with rfl | rfl | rfl
    · exact h76
    · exact h83
    · exact h146
  · intro p hp
    simp only [List.mem_cons, List.not_mem_nil, or_false] at hp
    rcases hp with rfl | rfl | rfl
    · exact Option.isNone_iff_eq_none.mp Z.o0
    · exact Option.isNone_iff_eq_none.mp Z.o1
    · exact Option.isNone_iff_eq_none.mp Z.o10
  · intro p hp
    simp only [List.mem_cons, List.not_mem_nil, or_false] at hp
    rcases hp with rfl | rfl | rfl
    · exact hdB_ok X (by decide) Z.t0
    · exact hdB_ok X (by decide) Z.t1
    · exact hdB_ok X (by decide) Z.t10
  · obtain ⟨oc, od, kV, doc, pm, an, cdv, ct, osl, e, _⟩ := T.U_law.ex
    rw [e]
    exact fun s u => .of_eq rfl
  · intro H a ns hl hT hS
    refine ⟨a, ns, rfl, hS, hl, ⟨⟨#[], hT (87, 83) (by simp), by simp [TriplesOk]⟩, ⟨#[], hT (150, 146) (by simp), by simp [TriplesOk]⟩, ⟨#[], hT (80, 76) (by simp), by simp [TriplesOk]⟩⟩, fun _ => rfl⟩
end KP

set_option Elab.async false
set_option maxRecDepth 100000
set_option maxHeartbeats 8000000
set_option linter.all false
namespace KP
open PySem PySem.Spec PyProof.Rows L2 Gr PySem.W
/-! the head: beside the written part the table of the modules is looked at, and the tables of the code objects that make generators -/
noncomputable def sysO (P : Params) : Obj := match ((boot_heap P).get? sysModules).getD default with
  | ⟨c, d, .dict es n, sl⟩ => ⟨c, d, .dict (es.push ⟨(if ("math" : Str).cps.isEmpty then 0 else reduceHash (P.strHash ("math" : Str).cps) : Int), .str ("math" : Str) 284, .ref 13⟩) (n + 1), sl⟩
  | o => o
noncomputable def withSys (K : Params → Frag) (P : Params) : Frag := (sysModules, sysO P) :: K P
theorem lookup_withSys {K : Params → Frag} {P : Params} (b : Addr) (h : b ≠ sysModules) : (withSys K P).lookup b = (K P).lookup b := by
  unfold withSys
  rw [List.lookup_cons, beq_eq_false_iff_ne.mpr h]
noncomputable def withTabs (K : Params → Frag) (P : Params) : Frag := (76, tabO #[]) :: (83, tabO #[]) :: (146, tabO #[]) :: withSys K P
theorem tabE {K : Params → Frag} {as : List Addr} (e : ∀ P, as = (K P).map (·.1)) (P : Params) : 76 :: 83 :: 146 :: sysModules :: as = (withTabs K P).map (·.1) := congrArg (fun l => 76 :: 83 :: 146 :: sysModules :: l) (e P)
theorem tabs_in {K : Params → Frag} {P : Params} {h : Heap} (X : (withTabs K P).In h) (o76 : ((withSys K P).lookup 76).isNone = true) (o83 : ((withSys K P).lookup 83).isNone = true) (o146 : ((withSys K P).lookup 146).isNone = true) : (withSys K P).In h ∧ h.get? 76 = some (tabO #[]) ∧ h.get? 83 = some (tabO #[]) ∧ h.get? 146 = some (tabO #[]) := by
  refine ⟨fun b o e => X b o ?_, X 76 _ (by rfl), X 83 _ (by rfl), X 146 _ (by rfl)⟩
  have n76 : b ≠ 76 := fun q => by
    rw [q, Option.isNone_iff_eq_none.mp o76] at e
    cases e
  have n83 : b ≠ 83 := fun q => by
    rw [q, Option.isNone_iff_eq_none.mp o83] at e
    cases e
  have n146 : b ≠ 146 := fun q => by
    rw [q, Option.isNone_iff_eq_none.mp o146] at e
    cases e
  unfold withTabs
  rw [List.lookup_cons, beq_eq_false_iff_ne.mpr n76]
  rw [List.lookup_cons, beq_eq_false_iff_ne.mpr n83]
  rw [List.lookup_cons, beq_eq_false_iff_ne.mpr n146]
  exact e
end KP
open PySem PySem.W PyProof.Rows
local macro_rules
  | `(tactic| o_headL ($_ $K $as $p)) => `(tactic| o_headL PySem.W.kHook (KP.withTabs $K) (76 :: 83 :: 146 :: PySem.sysModules :: $as) (KP.tabE (K := $K) (as := $as) $p))
set_option maxHeartbeats 0 in
theorem PySem.Challenge.cw_gentlerounds_k02_names_paths_and_values_holds : PySem.Challenge.rw_gentlerounds_k02_names_paths_and_values.Holds := by
  w_on; o_law; k_headL; (case hw => w_witness2)
  k_fill
  refine Gr.walk_ofQT (l := PySem.Challenge.rw_gentlerounds_k02_names_paths_and_values) (n := 63) (k := 7) (x := "_law_script") (K := KP.withSys _) rfl (by decide) rfl ⟨rfl, by decide, by decide⟩ (fun w h Y => (KP.tabs_in (PySem.W.kIn_of Y) (by kernel_rfl) (by kernel_rfl) (by kernel_rfl)).1) ?F
  case F => as_aux_lemma =>
    intro w mg fa h Y KX G hmg
    have Q := KP.tabs_in (PySem.W.kIn_of Y) (by kernel_rfl) (by kernel_rfl) (by kernel_rfl)
    refine' KP.all_ok (KP.Facts.mk ?n ?f ?s ?k0 ?k1 ?k2 ?k3 ?i0 ?d0 ?t0 ?o0 ?d1 ?t1 ?o1 ?d2 ?d3 ?d4 ?d5 ?d6 ?d7 ?d8 ?d9 ?d10 ?t10 ?o10 ?d11 ?d12 ?d13 ?d14 ?d15 ?d16 ?d17 ?d18 ?d19 ?d20 ?d21 ?d22 ?d23 ?d24 ?d25 ?d26 ?d27) KX G hmg Q.2.1 Q.2.2.1 Q.2.2.2
    (case n => as_aux_lemma => kernel_rfl)
    (case f => as_aux_lemma => kernel_rfl)
    (case s => as_aux_lemma => kernel_rfl)
    (case k0 => as_aux_lemma => kernel_rfl)
    (case k1 => as_aux_lemma => kernel_rfl)
    (case k2 => as_aux_lemma => kernel_rfl)
    (case k3 => as_aux_lemma => kernel_rfl)
    (case i0 => as_aux_lemma => kernel_rfl)
    (case d0 => (refine' KP.fun_mkC (f := 81) KP.lookup_withSys (by decide) ?l ?c; (case l => k_is); (case c => kernel_rfl)))
    (case t0 => as_aux_lemma => kernel_rfl)
    (case o0 => as_aux_lemma => kernel_rfl)
    (case d1 => (refine' KP.fun_mkC (f := 88) KP.lookup_withSys (by decide) ?l ?c; (case l => k_is); (case c => kernel_rfl)))
    (case t1 => as_aux_lemma => kernel_rfl)
    (case o1 => as_aux_lemma => kernel_rfl)
    (case d2 => (refine' KP.fun_mkS (f := 95) KP.lookup_withSys (by decide) ?l ?c; (case l => k_is); (case c => kernel_rfl)))
    (case d3 => (refine' KP.fun_mkS (f := 102) KP.lookup_withSys (by decide) ?l ?c; (case l => k_is); (case c => kernel_rfl)))
    (case d4 => (refine' KP.fun_mkS (f := 109) KP.lookup_withSys (by decide) ?l ?c; (case l => k_is); (case c => kernel_rfl)))
    (case d5 => (refine' KP.fun_mkS (f := 116) KP.lookup_withSys (by decide) ?l ?c; (case l => k_is); (case c => kernel_rfl)))
    (case d6 => (refine' KP.fun_mkS (f := 123) KP.lookup_withSys (by decide) ?l ?c; (case l => k_is); (case c => kernel_rfl)))
    (case d7 => (refine' KP.fun_mkS (f := 130) KP.lookup_withSys (by decide) ?l ?c; (case l => k_is); (case c => kernel_rfl)))
    (case d8 => (refine' KP.fun_mkS (f := 137) KP.lookup_withSys (by decide) ?l ?c; (case l => k_is); (case c => kernel_rfl)))
    (case d9 => (refine' KP.fun_mkS (f := 144) KP.lookup_withSys (by decide) ?l ?c; (case l => k_is); (case c => kernel_rfl)))
    (case d10 => (refine' KP.fun_mkC (f := 151) KP.lookup_withSys (by decide) ?l ?c; (case l => k_is); (case c => kernel_rfl)))
    (case t10 => as_aux_lemma => kernel_rfl)
    (case o10 => as_aux_lemma => kernel_rfl)
    (case d11 => (refine' KP.fun_mkS (f := 158) KP.lookup_withSys (by decide) ?l ?c; (case l => k_is); (case c => kernel_rfl)))
    (case d12 => (refine' KP.fun_mkS (f := 165) KP.lookup_withSys (by decide) ?l ?c; (case l => k_is); (case c => kernel_rfl)))
    (case d13 => (refine' KP.fun_mkS (f := 172) KP.lookup_withSys (by decide) ?l ?c; (case l => k_is); (case c => kernel_rfl)))
    (case d14 => (refine' KP.fun_mkS (f := 179) KP.lookup_withSys (by decide) ?l ?c; (case l => k_is); (case c => kernel_rfl)))
    (case d15 => (refine' KP.fun_mkS (f := 186) KP.lookup_withSys (by decide) ?l ?c; (case l => k_is); (case c => kernel_rfl)))
    (case d16 => (refine' KP.fun_mkS (f := 193) KP.lookup_withSys (by decide) ?l ?c; (case l => k_is); (case c => kernel_rfl)))
    (case d17 => (refine' KP.fun_mkS (f := 198) KP.lookup_withSys (by decide) ?l ?c; (case l => k_is); (case c => kernel_rfl)))
    (case d18 => (refine' KP.fun_mkS (f := 203) KP.lookup_withSys (by decide) ?l ?c; (case l => k_is); (case c => kernel_rfl)))
    (case d19 => (refine' KP.fun_mkS (f := 208) KP.lookup_withSys (by decide) ?l ?c; (case l => k_is); (case c => kernel_rfl)))
    (case d20 => (refine' KP.fun_mkS (f := 213) KP.lookup_withSys (by decide) ?l ?c; (case l => k_is); (case c => kernel_rfl)))
    (case d21 => (refine' KP.fun_mkS (f := 220) KP.lookup_withSys (by decide) ?l ?c; (case l => k_is); (case c => kernel_rfl)))
    (case d22 => (refine' KP.fun_mkS (f := 227) KP.lookup_withSys (by decide) ?l ?c; (case l => k_is); (case c => kernel_rfl)))
    (case d23 => (refine' KP.fun_mkS (f := 234) KP.lookup_withSys (by decide) ?l ?c; (case l => k_is); (case c => kernel_rfl)))
    (case d24 => (refine' KP.fun_mkS (f := 241) KP.lookup_withSys (by decide) ?l ?c; (case l => k_is); (case c => kernel_rfl)))
    (case d25 => (refine' KP.fun_mkS (f := 248) KP.lookup_withSys (by decide) ?l ?c; (case l => k_is); (case c => kernel_rfl)))
    (case d26 => (refine' KP.fun_mkS (f := 253) KP.lookup_withSys (by decide) ?l ?c; (case l => k_is); (case c => kernel_rfl)))
    (case d27 => (refine' KP.fun_mkS (f := 258) KP.lookup_withSys (by decide) ?l ?c; (case l => k_is); (case c => kernel_rfl)))

