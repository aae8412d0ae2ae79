import PyProof.Rows.All
import Wide.All
import OpenK.AllK
import Wide.FinOn
import KE.DatumIndex
import HandS.ForMost
import HandS.ForExc
import HandS.ExcInit
import HandS.ExcIs
import HandS.ExcField
import HandS.IsInst
import HandS.Wide
import HandS.WideBits
import HandS.AnyAll
import HandS.Walk
import HandS.Conv
import HandS.TupAny
import KE.GoesEnumKw
import KE.DataIsa
import HandS.Comp
import HandS.Zip
import HandS.TupLe
import HandS.ListEq
import HandS.StrMore
import HandS.Dict
import HandS.SortKw
import KE.DataMinMax
import KE.KTupSum
import HandS.TupMul
import HandS.Style
import HandS.SortInts
import KE.SortCalls
import KE.KIndexOf
import KE.KDictDisplayH
import HandS.Defaults
import HandS.Property
import HandS.MakeKwOnly
import PySem.Challenge.RW_gentlerounds_k18_whole_monitor_objects_a
import HandS.Small
import KE.DataFind
import HandS.EndTab
import HandS.ExcOwn
import KE.KAssignIn
import HandS.ExcValue
import HandS.Iter
import HandS.TryMany
import HandS.TryOnly
import HandS.WordsExc
import HandS.SetFor
import KE.OsRunLaw
set_option Elab.async false
set_option maxRecDepth 100000
set_option maxHeartbeats 4000000
set_option linter.all false
/-! Ours: defs that are entered where no repr is under way (FnQ), their calls and bodies; repr of data. -/
namespace Gr
open PySem PySem.Spec PyProof.Rows L2

/-- a def's promise, for calls where no repr is under way -/
structure FnQ (P : Program) (w : World) (K : PySem.W.Frag) (mg : Str → Option Value) (base : Heap) (CX : CXT) (k : Nat)
    (f : Addr) (fd : FuncData) (ps : List Str) (sp : Sp) : Prop where
  len : ∀ vs H Q E, sp vs H Q E → vs.length = ps.length
  run : ∀ (A : Around) (outer : List Env) (s : Shared) (H : Hp) (args : Args) (us : List Value) (vs : List V) (Q : VK) (E : XK),
    A.guards = some [] → Room k A → Env0 P w K mg base A outer s H → BindsTo s fd args (ps.zip us) → Vals vs us → sp vs H Q E →
    codeAny (model P w) A (.call (.ref f) args) (CR CX outer P w H s Q E) s

section
variable {P : Program} {w : World} {K : PySem.W.Frag} {mg : Str → Option Value} {base : Heap}

theorem fnQ_fn {CX : CXT} {k : Nat} {f : Addr} {fd : FuncData} {ps : List Str} {sp : Sp}
    (F : FnOk P w K mg base CX k f fd ps sp) : FnQ P w K mg base CX k f fd ps sp :=
  ⟨F.len, fun A outer s H args us vs Q E _ => F.run A outer s H args us vs Q E⟩

/-- such a def by its body -/
theorem fnQ_of {CX : CXT} {k : Nat} {f : Addr} {nm ql : Str} {par : Arguments} {bd : List Stmt} {sc : Scope}
    {dV kV doc pm cdv ct oc : Value} {an od : Option Addr} {osl : Array (Option Value)} {N ps : List Str} {sp : Sp}
    (lk : K.lookup f = some ⟨oc, od, .func (PySem.W.fnOf nm ql par bd sc dV kV doc pm an cdv ct), osl⟩)
    (hcd : PySem.W.codeIn K cdv ql = true) (S : FnScope N ps sc)
    (len : ∀ vs H Q E, sp vs H Q E → vs.length = ps.length)
    (hb : ∀ (A : Around) (outer : List Env) (s : Shared) (H : Hp) (vs : List V) (Q : VK) (E : XK), A.guards = some [] →
      Room k (A.deeper (envOfC ql sc s.heap.objs.size f cdv)) → sp vs H Q E →
      ∃ t, PSs (cxOf CX P w K mg base N ql sc f cdv A outer s H E) bd t ∧
        t { nx := fun _ H' => Q .non H', rt := Q } (start N vs) H) :
    FnQ P w K mg base CX (k + 1) f (PySem.W.fnOf nm ql par bd sc dV kV doc pm an cdv ct) ps sp := by
  refine ⟨len, fun A outer s H args us vs Q E hgu hr e0 hbi r hsp => ?_⟩
  have hlen := len _ _ _ _ hsp
  have keepB : ∀ b o, base.get? b = some o → s.heap.get? b = some o := fun b o e => (e0.bs b o e).1
  have KX : K.In s.heap := e0.mod.kin.keeps keepB
  have lim : s.heap.NoLimit := e0.mod.nolimit.keeps keepB
  refine codeAny_call_function hr.depth (KX _ _ lk) rfl S.co S.gen rfl (PySem.W.codeRec_of KX hcd) (hbi _ _ _ _ ?_)
  refine wpAny_newFunctionEnv_cells S.kind (fun ⟨n, v⟩ hy => ?_) fun env he s1 x => ?_
  · exact (S.par n (List.of_mem_zip hy).1).elim .inl fun q => .inr ⟨q, PySem.W.cellsFrom_some _ _ _ (.inl q)⟩
  subst he
  refine ⟨lim.keeps x.toInCall.keep, codeAny_func ?_⟩
  obtain ⟨t, ht, hq⟩ := hb A outer s H vs Q E hgu (hr.deeper _) hsp
  have I := inv_start (CX := CX) (E := E) S hr.hd e0 hlen r x
  refine wpAny_mono (ht.run [] s1 (start N vs) H _ I hq) (fun fl s' hs => ?_) fun e s' hs => hs
  cases fl with
  | ret u =>
    obtain ⟨v, σ', H', J, rv, q⟩ := hs
    exact ⟨v, H', J.os, J.bare, J.base, J.hok, rv, q⟩
  | next =>
    obtain ⟨σ', H', J, q⟩ := hs
    exact ⟨V.non, H', J.os, J.bare, J.base, J.hok, rfl, q⟩
  | brk =>
    obtain ⟨_, _, _, q⟩ := hs
    exact q.elim
  | cont =>
    obtain ⟨_, _, _, q⟩ := hs
    exact q.elim

/-- the same in the words of Fun -/
theorem funQ {x ql : Str} {st : Stmt} {f : Addr} {fd : FuncData} {N ps : List Str} {k : Nat} {sp : Sp} (F : Fun K x ql st f fd)
    (S : FnScope N ps (defScope st)) (len : ∀ vs H Q E, sp vs H Q E → vs.length = ps.length)
    (hb : ∀ (cdv : Value) (A : Around) (outer : List Env) (s : Shared) (H : Hp) (vs : List V) (Q : VK) (E : XK), A.guards = some [] →
      Room k (A.deeper (envOfC ql (defScope st) s.heap.objs.size f cdv)) → sp vs H Q E →
      ∃ t, PSs (cxOf CX0 P w K mg base N ql (defScope st) f cdv A outer s H E).nox (defBody st) t ∧
        t { nx := fun _ H' => Q .non H', rt := Q } (start N vs) H) : FnQ P w K mg base CX0 (k + 1) f fd ps sp := by
  obtain ⟨oc, od, kV, doc, pm, an, cdv, ct, osl, rfl, lk, hcd⟩ := F.ex
  refine fnQ_of lk hcd S len fun A outer s H vs Q E hgu hr hsp => ?_
  obtain ⟨t, h, q⟩ := hb cdv A outer s H vs Q E hgu hr hsp
  exact ⟨t, h.nox, q⟩
/-- .. where exceptions may run within the body (a try) -/
theorem funQx {x ql : Str} {st : Stmt} {f : Addr} {fd : FuncData} {N ps : List Str} {k : Nat} {sp : Sp} {CX : CXT} (F : Fun K x ql st f fd)
    (S : FnScope N ps (defScope st)) (len : ∀ vs H Q E, sp vs H Q E → vs.length = ps.length)
    (hb : ∀ (cdv : Value) (A : Around) (outer : List Env) (s : Shared) (H : Hp) (vs : List V) (Q : VK) (E : XK), A.guards = some [] →
      Room k (A.deeper (envOfC ql (defScope st) s.heap.objs.size f cdv)) → sp vs H Q E →
      ∃ t, PSs (cxOf CX P w K mg base N ql (defScope st) f cdv A outer s H E) (defBody st) t ∧
        t { nx := fun _ H' => Q .non H', rt := Q } (start N vs) H) : FnQ P w K mg base CX (k + 1) f fd ps sp := by
  obtain ⟨oc, od, kV, doc, pm, an, cdv, ct, osl, rfl, lk, hcd⟩ := F.ex
  exact fnQ_of lk hcd S len fun A outer s H vs Q E hgu hr hsp => hb cdv A outer s H vs Q E hgu hr hsp
end

section
variable {X : Cx} {CX : CXT} {k : Nat} {f : Addr} {fd : FuncData} {ps : List Str} {sp : Sp} {dvs : List V} {ds : List Value} {E : XK} {x : Str} {p pos : Pos} {e : Expr} {es : List Expr} {t : TA}
theorem run_fnQ {pins : List (Addr × Obj)} {σ : L2.St} {H : Hp} {s : Shared} {Q : VK} {us : List Value} {vs : List V} (hgu : X.A.guards = some [])
    (F : FnQ X.prog X.w X.K X.mg X.base CX k f fd ps sp) (hr : Room k X.A) (hb : Binds X.K fd ps ds) (hd : Vals dvs ds) (hx : Passes CX X E)
    (I : Inv X pins σ H s) (r : Vals vs us) (h : sp (vs ++ dvs) H Q E) : wpAny (model X.prog X.w) X.A (call (.ref f) us) (EP X pins σ Q) X.xe s := by
  have r2 := Vals.append r hd
  have hl : (us ++ ds).length = ps.length := (r2.length).symm.trans (F.len _ _ _ _ h)
  refine wpAny_call (codeAny_mono (F.run X.A X.stack s H ⟨us, []⟩ (us ++ ds) (vs ++ dvs) Q E hgu hr I.env0 (hb s us I.kIn hl) r2 h) fun rr s' hq => ?_)
  match rr, hq with
  | .error e, hq => exact hx pins σ H s e s' I hq
  | .ok (.ret u), hq => exact I.after hq
/-- f(e, ..) -/
theorem pe_callQ (hgu : X.A.guards = some []) (F : FnQ X.prog X.w X.K X.mg X.base CX k f fd ps sp) (hr : Room k X.A) (hg : Gl X x) (hm : X.mg x = some (.ref f))
    (hk : PySem.W.keepIn X.K (.ref f) = true) (hb : Binds X.K fd ps ds) (hd : Vals dvs ds) (hx : Passes CX X E) (ha : PA X (e :: es) t)
    (hdb : (x == ("__debug__" : Str)) = false := by decide) (he : starEach (e :: es) X.env = (false, eval e X.env) :: starEach es X.env := by rfl)
    (hpl : (backTo pos (starEach es X.env)).any (·.1) = false := by rfl) : PE X (.Call (.Name x p) (e :: es) [] pos) (tCall sp dvs E t) :=
  ⟨fun pins s σ H Q I h => wpAny_Call_Name_kw (ld_glob I hg hm (PySem.W.callWith_K (h₀ := X.base) I.ok.mod.kin hk
    (thn (ha.run pos pins s σ H _ I h) fun us s1 ⟨vs, H1, I1, r, q⟩ => ⟨I1.kIn, run_fnQ hgu F hr hb hd hx I1 r q⟩) he hpl) hdb)⟩
end
end Gr

set_option Elab.async false
set_option maxRecDepth 100000
set_option maxHeartbeats 4000000
set_option linter.all false
/-! Ours: repr of data (lists, tuples, dicts of int and text keys, nested), where no repr is under way. -/
namespace Gr
open PySem PySem.Spec PyProof.Rows L2

mutual
/-- the value v holds the data d -/
inductive Dq (K : PySem.W.Frag) (H : Hp) : V → PyData → Prop
  | non : Dq K H .non .none
  | bl (b : Bool) : Dq K H (.bl b) (.bool b)
  | int (i : Int) : Dq K H (.int i) (.int i)
  | str (x : Str) : Dq K H (.str x) (.str x)
  | lst {a : Addr} {xs : List V} {ds : List PyData} : SqL K H a xs → DqAll K H xs ds → Dq K H (.ref a) (.list ds)
  | tup {a : Addr} {xs : List V} {ds : List PyData} : SqT K H a xs → DqAll K H xs ds → Dq K H (.ref a) (.tuple ds)
  | dic {a : Addr} {kvs : List (Key × V)} {ds : List (PyData × PyData)} : H a = some (.dK kvs) →
      DqAll K H (kvs.map fun p => kV p.1) (ds.map (·.1)) → DqAll K H (kvs.map (·.2)) (ds.map (·.2)) → Dq K H (.ref a) (.dict ds)
inductive DqAll (K : PySem.W.Frag) (H : Hp) : List V → List PyData → Prop
  | nil : DqAll K H [] []
  | cons {v : V} {vs : List V} {d : PyData} {ds : List PyData} : Dq K H v d → DqAll K H vs ds → DqAll K H (v :: vs) (d :: ds)
end

theorem SqT_same {K : PySem.W.Frag} {H H' : Hp} {a : Addr} {xs : List V} (e : Same H H') (h : SqT K H a xs) : SqT K H' a xs := by
  rcases h with (h | ⟨o, h⟩) | h
  · exact .inl (.inl (e _ _ h))
  · exact .inl (.inr ⟨o, e _ _ h⟩)
  · exact .inr h
/-- what more is tracked changes no data -/
theorem Dq.same {K : PySem.W.Frag} {H H' : Hp} {v : V} {d : PyData} (e : Same H H') (h : Dq K H v d) : Dq K H' v d :=
  Dq.rec (motive_1 := fun v d _ => Dq K H' v d) (motive_2 := fun vs ds _ => DqAll K H' vs ds)
    .non .bl .int .str (fun hs _ ih => .lst (e.seq hs) ih) (fun hs _ ih => .tup (SqT_same e hs) ih)
    (fun hd _ _ i1 i2 => .dic (e _ _ hd) i1 i2) .nil (fun _ _ i1 i2 => .cons i1 i2) h
theorem DqAll.rep {K : PySem.W.Frag} {H : Hp} {v : V} {d : PyData} (h : Dq K H v d) : ∀ n : Nat, DqAll K H (List.replicate n v) (List.replicate n d)
  | 0 => .nil
  | n + 1 => .cons h (DqAll.rep h n)

theorem keys_of_pairs {P : Program} {w : World} : ∀ {es : List DictEntry} {kvs : List (Key × Value)}, Pairs (mixKind P w) es kvs → Vals (kvs.map fun p => kV p.1) (es.map (·.key))
  | _, _, .nil => .nil
  | _, _, .cons h _ t => by
    refine .cons ?_ (keys_of_pairs t)
    rcases keyIs_shape h with ⟨i, t, e1, e2⟩ | ⟨x, t, e1, e2⟩
    · dsimp only
      rw [e1, e2]
      exact ⟨t, rfl⟩
    · dsimp only
      rw [e1, e2]
      exact ⟨t, rfl⟩
theorem vals_of_pairs {P : Program} {w : World} : ∀ {es : List DictEntry} {kvs : List (Key × Value)}, Pairs (mixKind P w) es kvs → es.map (·.val) = kvs.map (·.2)
  | _, _, .nil => rfl
  | _, _, .cons _ h t => by rw [List.map_cons, List.map_cons, h, vals_of_pairs t]
theorem kv_keys : ∀ {kvs : List (Key × V)} {vs : List (Key × Value)}, KV kvs vs → kvs.map (fun p => kV p.1) = vs.map (fun p => kV p.1)
  | _, _, .nil => rfl
  | _, _, .cons h t => by rw [List.map_cons, List.map_cons, h.1, kv_keys t]
theorem kv_vals : ∀ {kvs : List (Key × V)} {vs : List (Key × Value)}, KV kvs vs → Vals (kvs.map (·.2)) (vs.map (·.2))
  | _, _, .nil => .nil
  | _, _, .cons h t => .cons h.2 (kv_vals t)

/-- sys.modules is a dict of the written part -/
def SysM (K : PySem.W.Frag) : Prop := ∃ o es n, K.lookup sysModules = some o ∧ o.data = .dict es n

section
variable {X : Cx} {pins : List (Addr × Obj)} {σ : L2.St} {H : Hp} {s : Shared}
theorem Dq.reads (I : Inv X pins σ H s) {v : V} {d : PyData} (h : Dq X.K H v d) : ∀ u : Value, RelV v u → ∃ as, Reads s.heap u d as ∧ (SysM X.K → sysModules ∉ as) := by
  refine Dq.rec (motive_1 := fun v d _ => ∀ u : Value, RelV v u → ∃ as, Reads s.heap u d as ∧ (SysM X.K → sysModules ∉ as))
    (motive_2 := fun vs ds _ => ∀ us : List Value, Vals vs us → ∃ as, ReadsAll s.heap us ds as ∧ (SysM X.K → sysModules ∉ as)) ?_ ?_ ?_ ?_ ?_ ?_ ?_ ?_ ?_ h
  · intro u r
    cases r
    exact ⟨_, .none, fun _ z => nomatch z⟩
  · intro b u r
    cases r
    exact ⟨_, .bool b, fun _ z => nomatch z⟩
  · intro i u r
    obtain ⟨t, rfl⟩ := r
    exact ⟨_, .int i t, fun _ z => nomatch z⟩
  · intro x u r
    obtain ⟨t, rfl⟩ := r
    exact ⟨_, .str x t, fun _ z => nomatch z⟩
  · intro a xs ds hs _ ih u r
    cases r
    obtain ⟨its, rv, ⟨o, n, ho, hc, _, hd⟩, _⟩ := I.list hs
    obtain ⟨as, hr, hm⟩ := ih its rv
    refine ⟨_, .list ho hc hd hr, fun M z => ?_⟩
    rcases List.mem_cons.mp z with z | z
    · obtain ⟨o', es, n', e1, e2⟩ := id M
      have e3 := I.kIn _ _ e1
      rw [z, ho] at e3
      cases e3
      rw [hd] at e2
      cases e2
    · exact hm M z
  · intro a xs ds hs _ ih u r
    cases r
    obtain ⟨its, rv, ⟨o, ho, hc, n, hd⟩, _⟩ := I.tuple hs
    obtain ⟨as, hr, hm⟩ := ih its rv
    exact ⟨_, .tuple ho hc hd hr, hm⟩
  · intro a kvs ds hd _ _ i1 i2 u r
    cases r
    obtain ⟨_, hsm, vs, kv, o, es, ep, ho, hx, hdt, _, hp, _⟩ := (show ObjOk X.prog X.w H s.heap a (.dK kvs) from I.hok a _ hd)
    obtain ⟨as, r1, m1⟩ := i1 (es.toList.map (·.key)) (by rw [kv_keys kv]; exact keys_of_pairs hp)
    obtain ⟨bs, r2, m2⟩ := i2 (es.toList.map (·.val)) (by rw [vals_of_pairs hp]; exact kv_vals kv)
    refine ⟨_, .dict ho hx.1 hdt r1 r2, fun M z => ?_⟩
    rcases List.mem_append.mp z with z | z
    · rcases List.mem_cons.mp z with z | z
      · rw [← z] at hsm
        exact absurd hsm (by decide)
      · exact m1 M z
    · exact m2 M z
  · intro us r
    cases r
    exact ⟨_, .nil, fun _ z => nomatch z⟩
  · intro v vs d ds _ _ i1 i2 us r
    cases r with
    | cons ra rr =>
      obtain ⟨as, q1, m1⟩ := i1 _ ra
      obtain ⟨bs, q2, m2⟩ := i2 _ rr
      refine ⟨_, .cons q1 q2, fun M z => ?_⟩
      rcases List.mem_append.mp z with z | z
      · exact m1 M z
      · exact m2 M z
end

/-- repr(x), x data -/
def rRepr (K : PySem.W.Frag) : List V → Hp → VK → Prop := fun xs H Q => ∃ v d, xs = [v] ∧ Dq K H v d ∧ d.showable = true ∧ d.depth ≤ 60 ∧ d.shown.length ≤ sizeLine ∧ Q (.str d.shown) H

theorem repr_ref_only {h : Heap} {d : PyData} {a : Addr} {as : List Addr} (r : Reads h (.ref a) d as) : True := trivial
section
variable {X : Cx}
theorem call_reprD (hgu : X.A.guards = some []) (hu : X.A.units + 64 < cLine) (hM : SysM X.K) : CallR X (.builtin "repr") (rRepr X.K) := by
  intro pins s σ H xs us Q I r h
  obtain ⟨v, d, rfl, hd, hs, hdp, hz, q⟩ := h
  obtain ⟨u, rfl, ru⟩ := vals1 r
  obtain ⟨as, hr, hm⟩ := hd.reads I u ru
  have fin : ∀ h' tk t, (∀ b o, s.heap.get? b = some o → h'.get? b = some o) → EP X pins σ Q (.str d.shown t) { s with heap := h', toks := tk } :=
    fun h' tk t hk => ⟨.str d.shown, H, I.kept hk, ⟨_, rfl⟩, q⟩
  cases v with
  | ref a =>
    cases (show u = Value.ref a from ru)
    exact repr_of_reads' hr hs (fun _ => hm hM) hgu (by omega) (fun _ _ e => e) (fun h' t tk hk => fin h' tk t hk) hz
  | non =>
    cases hd
    cases (show u = Value.none from ru)
    exact PySem.P.repr_of_none (fin s.heap _ _ fun _ _ e => e)
  | bl b =>
    cases hd
    cases (show u = Value.bool b from ru)
    exact PySem.P.repr_of_bool (fin s.heap _ _ fun _ _ e => e)
  | int i =>
    cases hd
    obtain ⟨t, e⟩ := (show ∃ t, u = Value.int i t from ru)
    subst e
    exact PySem.P.repr_of_int (by simpa [PyData.showable] using hs) (fin s.heap _ _ fun _ _ e => e)
  | str x =>
    cases hd
    obtain ⟨t, e⟩ := (show ∃ t, u = Value.str x t from ru)
    subst e
    exact PySem.P.repr_of_str (fin s.heap _ _ fun _ _ e => e) (by simpa [PyData.shown] using hz)
  | byt b => cases hd
  | flt b => cases hd
  | ty n => cases hd
end
end Gr

set_option Elab.async false
set_option maxRecDepth 100000
set_option maxHeartbeats 4000000
set_option linter.all false
/-! Ours: all(..) of a generator expression over a text's signs whose element may read names of the module. -/
namespace Gr
open PySem PySem.Spec PyProof.Rows L2 GxR

/-- the element tells pb of the sign; the running def's module is at hand -/
def EltG (X : Cx) (scope : Scope) (x : Str) (elt : Expr) (pb : Nat → Bool) : Prop :=
  ∀ (en : Env) (B : Around) (E' : Value → Shared → Prop) (c : Nat) (t : Tok) (z : Shared) (m : Str → Option Value),
    en.scope = scope → en.globals = X.env.globals → (∀ b o, X.base.get? b = some o → z.heap.get? b = some o) → X.base.Ns mainGlobals X.mg → X.env.globals = mainGlobals → z.heap.Ns en.locals m → m x = some (.str ⟨#[c]⟩ t) →
    wpAny (model X.prog X.w) B (eval elt en) (fun y z' => y = .bool (pb c) ∧ Keeps z z') E' z

section
variable {X : Cx} {pins : List (Addr × Obj)} {σ : L2.St} {H : Hp} {s : Shared}
/-- the code of a generator expression, and the built-ins it sees, behind an iterator that was just made -/
theorem code_then {c P : Addr} {ps : Array Value} {o : Obj} {scope : Scope} {q : Str} {gpos : Pos} {E : Value → Shared → Prop} {R : Value → Addr → Shared → Prop} (I : Inv X pins σ H s)
    (TB : TabB X.base X.mg c P) (hcode : X.env.code = .ref c) (hP : H P = some (.tbl ps)) (ht : TriplesOk ps.toList)
    (h : ∀ (cv : Value) (k : Heap) (tk : Nat) (more : Array Value), (∀ b u, b ≠ P → (s.heap.push o).get? b = some u → k.get? b = some u) → s.heap.objs.size < k.objs.size → k.get? P = some { cls := .none, data := .fields (ps ++ more) } → TriplesOk (ps ++ more).toList → k.NoLimit →
      R cv builtinsNs { s with heap := k, toks := tk }) :
    wpAny (model X.prog X.w) X.A (genexprCode X.env gpos q scope) (fun cv z => wpAny (model X.prog X.w) X.A (builtinsFor X.env.globals X.env.builtins) (fun bi z' => R cv bi z') E z) E { s with heap := s.heap.push o } := by
  have p0 : s.heap.get? P = some { cls := .none, data := .fields ps } := I.hok P _ hP
  have p1 : (s.heap.push o).get? P = some { cls := .none, data := .fields ps } := Heap.get?_push_of_some _ p0
  have cd : PySem.W.CodeHd (s.heap.push o) c P := TB.code.keeps fun b u e => Heap.get?_push_of_some _ (I.bk b u e)
  have lim : (s.heap.push o).NoLimit := I.nolimit.push o
  have nP : cStatics ≠ P := by
    obtain ⟨_, ⟨o', es, ep, ho, hd, _⟩, _⟩ := I.nolimit
    intro e
    rw [e, p0] at ho
    cases ho
    cases hd
  have last : ∀ (cv : Value) (k : Heap) (tk : Nat) (more : Array Value), Heap.ExtBut P (s.heap.push o) k → (s.heap.push o).objs.size ≤ k.objs.size → k.get? P = some { cls := .none, data := .fields (ps ++ more) } → TriplesOk (ps ++ more).toList →
      wpAny (model X.prog X.w) X.A (builtinsFor X.env.globals X.env.builtins) (fun bi z' => R cv bi z') E { s with heap := k, toks := tk } := by
    intro cv k tk more hx hs hp ht'
    obtain ⟨bm, ob, e1, e2, e3, e4, e5, e6, e7, e8⟩ := TB.bm
    have up : ∀ b u, b ≠ P → s.heap.get? b = some u → k.get? b = some u := fun b u n e => hx b u n (Heap.get?_push_of_some _ e)
    have g : k.Ns X.env.globals X.mg := by
      rw [I.ok.glob]
      exact ((I.mod.glob.keeps I.bk).push o).extBut hx TB.gP
    refine wpAny_builtinsFor g e1 e2 (up _ _ e4 (I.bk _ _ e5)) e6 e7 e8 (h cv k tk more hx ?_ hp ht' (lim.extBut hx nP))
    rw [Heap.size_push] at hs
    exact hs
  cases hf : codeAmong gpos ps.toList with
  | none =>
    refine wpAny_genexprCodeX hcode (cd.code p1 ht) (cd.tab p1) hf fun c' k tk hx hge hlt hco _ htab _ => ?_
    obtain ⟨_, _, _, _, _, _, _, _, _, _, _, _, _, _, _, _, _, _, _, htr, _⟩ := hco
    exact last _ k tk _ hx (Nat.le_of_lt (Nat.lt_of_le_of_lt hge hlt)) htab.2 htr
  | some cv =>
    refine wpAny_genexprCode_hit hcode (cd.code p1 ht) hf ?_
    have e : ps ++ #[] = ps := by simp
    exact last cv (s.heap.push o) s.toks #[] (fun b u _ e => e) (Nat.le_refl _) (by rw [e]; exact p1) (by rw [e]; exact ht)

theorem genG {c P : Addr} {elt iter : Expr} {x : Str} {px gpos : Pos} {scope : Scope} {pb : Nat → Bool} {te : TE} {k : Nat} {W : Value → Shared → Prop} {R : Str → Hp → Prop}
    (hr : Room k X.A) (TB : TabB X.base X.mg c P) (hcode : X.env.code = .ref c) (S : GenS X.env scope x) (hi : PE X iter te) (hel : EltG X scope x elt pb)
    (hs : ∀ v, genFold iter X.env v = pure v) (I : Inv X pins σ H s) (h : te σ H fun v H1 => ∃ a : Str, v = .str a ∧ TabG H1 P ∧ R a H1)
    (hQ : ∀ a H1 g z, R a H1 → Ready X pins σ H1 P a pb g z → W (.ref g) z) :
    wpAny (model X.prog X.w) X.A (eval (.GeneratorExp elt [⟨.Name x px, iter, [], 0⟩] scope gpos) X.env) W X.xe s := by
  have dr : X.A.depth < recursionLimit := Nat.lt_of_le_of_lt (by omega) hr.dp
  refine wpAny_GeneratorExp_walksQ hr.hd S.co (closure_ok S.free) S.cell S.dot S.loc S.kind dr (thn (hi.run pins s σ H _ I h) ?_) hs
  rintro xv s1 ⟨v, H1, I1, r1, a, rfl, ⟨ps, hP, ht⟩, q1⟩
  obtain ⟨t, rfl⟩ := id r1
  refine wpAny_pyIter_str fun o St Wk st0 => ⟨I1.nolimit.push o, code_then I1 TB hcode hP ht fun cv h3 tk more up lt hp ht' lim => ?_⟩
  have p0 : s1.heap.get? P = some { cls := .none, data := .fields ps } := I1.hok P _ hP
  have pl : P < s1.heap.objs.size := Heap.lt_size p0
  have at1 : ∀ b, b ∈ [s1.heap.objs.size] → b = s1.heap.objs.size := fun b hb => List.mem_singleton.mp hb
  have ne1 : s1.heap.objs.size ≠ P := fun e => Nat.lt_irrefl _ (e ▸ pl)
  have cl : cStatics < s1.heap.objs.size := let ⟨_, n, _⟩ := I1.nolimit; n.lt
  have up0 : ∀ b u, b ≠ P → s1.heap.get? b = some u → h3.get? b = some u := fun b u n e => up b u n (Heap.get?_push_of_some _ e)
  refine ⟨s1.heap.objs.size, [s1.heap.objs.size], [s1.heap.objs.size], a.cps.size, SignAt a, St, fun _ => true, fun i y => ∃ d, a.cps[i]? = some d ∧ y = .bool (pb d), rfl, Wk, ?_, fun b hb => ?_, lim, fun z => ?_, fun href hh => ?_, ?_⟩
  · refine (Wk X.A hr.hd).frame _ _ _ st0 fun b hb u e => up b u ?_ e
    rw [at1 b hb]
    exact ne1
  · rw [at1 b hb]
    exact lt
  · rw [at1 _ z] at cl
    exact Nat.lt_irrefl _ cl
  · constructor
    · intro B E' i v z m _ _ _ _ _
      rw [List.forIn_nil]
      exact wpAny_pure ⟨rfl, keeps_refl _⟩
    · intro B E' i v z m _ hv _ hn hm hk
      obtain ⟨d, u, hd, rfl⟩ := hv
      refine wpAny_mono (hel _ B E' d u z m rfl rfl (fun b w' e => ?_) I1.mod.glob I1.ok.glob hn hm) (fun y z' r => ⟨⟨d, hd, r.1⟩, r.2⟩) fun _ _ e => e
      obtain ⟨e1, e2⟩ := I1.bs b w' e
      have nb : b ≠ P := fun z => by
        rw [z, hP] at e2
        cases e2
      have lb : b < s1.heap.objs.size := Heap.lt_size e1
      refine hk b (List.mem_range.mpr (Nat.lt_trans lb lt)) (fun z => ?_) _ (hh _ _ (up0 b w' nb e1))
      rw [at1 b z] at lb
      exact Nat.lt_irrefl _ lb
  · intro g h5 tk5 gs gb ag sz5 k5 W5 hat
    simp only [GxR.passing_true, List.length_range] at W5
    refine hQ a H1 g _ q1 ⟨_, _, _, _, _, W5.in4_1, hat, ?_, fun s' mv => ?_⟩
    · rintro j y z Q' E' ⟨i, hij, d, hd, rfl⟩ q
      obtain ⟨hj, ej⟩ := List.getElem?_eq_some_iff.mp hij
      rw [List.getElem_range] at ej
      cases ej
      have e : a.cps.toList[j]? = some d := (Array.getElem?_toList (xs := a.cps) (i := j)).trans hd
      have q' : Q' (trF pb a.cps.toList j) z := q
      rw [trF_some e] at q'
      exact wpAny_truthy_bool q'
    · have nw : ∀ b u, s1.heap.get? b = some u → b ∉ h3.objs.size :: [s1.heap.objs.size] := fun b u e hb => by
        have l := Heap.lt_size e
        have l2 : s1.heap.objs.size < h3.objs.size := lt
        rcases List.mem_cons.mp hb with z | z
        · rw [z] at l
          exact Nat.lt_asymm l l2
        · rw [at1 b z] at l
          exact Nat.lt_irrefl _ l
      have J := inv_tab (more := more) (h' := s'.heap) (g' := s'.gens) (d' := s'.drawn) (t' := s'.toks) I1 hP (fun b u n e => mv.heap b u (nw b u e) (k5 b u (up0 b u n e))) (mv.heap P _ (nw P _ p0) (k5 P _ hp)) (AllBare.movedS (I1.bare.push gb) mv)
      have es : ({ s1 with heap := s'.heap, gens := s'.gens, drawn := s'.drawn, toks := s'.toks } : Shared) = s' := by
        obtain ⟨_, _, _, _, _⟩ := s'
        have := mv.os
        dsimp only at this
        rw [this]
      rw [es] at J
      exact ⟨upd H1 P (.tbl (ps ++ more)), ⟨⟨_, upd_same, ht'⟩, fun b hb => upd_ne hb⟩, J⟩

/-- all(elt for x in e), e a text -/
theorem pe_allG {c P : Addr} {elt iter : Expr} {x : Str} {px p pos gpos : Pos} {scope : Scope} {pb : Nat → Bool} {te : TE} {k : Nat}
    (hr : Room k X.A) (hg : Gl X "all") (hm : X.mg "all" = none) (TB : TabB X.base X.mg c P) (hcode : X.env.code = .ref c) (S : GenS X.env scope x) (hi : PE X iter te) (hel : EltG X scope x elt pb)
    (hs : ∀ v, genFold iter X.env v = pure v)
    (he : starEach [.GeneratorExp elt [⟨.Name x px, iter, [], 0⟩] scope gpos] X.env = (false, eval (.GeneratorExp elt [⟨.Name x px, iter, [], 0⟩] scope gpos) X.env) :: starEach [] X.env := by rfl) :
    PE X (.Call (.Name "all" p) [.GeneratorExp elt [⟨.Name x px, iter, [], 0⟩] scope gpos] [] pos) (tAllS P pb te) := by
  refine ⟨fun pins s σ H Q I h => wpAny_Call_Name_kw (ld_blt I hg hm boot_all (PyProof.Rows.callWith_builtin1 ?_ he (by rfl)))⟩
  rw [he]
  show wpAny _ _ (spliced ((false, eval (.GeneratorExp elt [⟨.Name x px, iter, [], 0⟩] scope gpos) X.env) :: backTo pos (starEach [] X.env))) _ _ s
  refine Calls.spliced_cons (genG (R := fun a H1 => ∀ H2, Tabbed P H1 H2 → Q (.bl (a.cps.toList.all pb)) H2) hr TB hcode S hi hel hs I h ?_)
  rintro a H1 g z hR ⟨fp, wr, G, F, St, W, hst, htr, hI⟩
  refine Calls.spliced_nil (call_all_walkS (W.self 0 _ _ _ hst ⟨g, fp, wr, G, _, F, St, _, rfl, W, hst, htr, fun s' mv => ?_⟩))
  obtain ⟨H2, hT, J⟩ := hI s' mv
  rw [all_signs a pb]
  exact ⟨.bl _, H2, J, rfl, hR H2 hT⟩
end

/-- x == 'k' -/
theorem eg_eq {X : Cx} {scope : Scope} {x k : Str} {j : Nat} {p1 p2 p3 : Pos} (hk : scope.kind = .function) (hl : scope.names.lookup x = some .local) (hd : (x == ("__debug__" : Str)) = false := by decide) :
    EltG X scope x (.Compare (.Name x p1) [.Eq] [.Constant (.str k) j p2] p3) (fun c => [c] == k.cps.toList) :=
  fun en B E' c t z m hs _ _ _ _ hn hm => elt_eq (prog := X.prog) (w := X.w) (scope := scope) hk hl hd en B E' c t z m hs hn hm
/-- x in G, G a text of the module -/
theorem eg_in {X : Cx} {scope : Scope} {x G : Str} {y : Str} {t0 : Tok} {p1 p2 p3 : Pos} (hk : scope.kind = .function) (hl : scope.names.lookup x = some .local) (hG : scope.names.lookup G = some .globalImplicit) (hmG : X.mg G = some (.str y t0))
    (hd : (x == ("__debug__" : Str)) = false := by decide) (hd2 : (G == ("__debug__" : Str)) = false := by decide) :
    EltG X scope x (.Compare (.Name x p1) [.In] [.Name G p2] p3) (fun c => decide (c ∈ y.cps.toList)) := by
  intro en B E' c t z m hs hg hb hns hgl hn hm
  have hkind : en.scope.kind = .function := by rw [hs]; exact hk
  have hkx : en.scope.names.lookup x = some .local := by rw [hs]; exact hl
  have hkG : en.kindOf G = some .globalImplicit := by
    show en.scope.names.lookup G = _
    rw [hs]
    exact hG
  refine wpAny_Compare1 (wpAny_Name (wpAny_loadName_local hkind hkx hn hm ?_) hd) (by rfl)
  refine Calls.Name_function_global hkind hkG (Calls.loadGlobal_global (by rw [hg, hgl]; exact hns.keeps hb) hmG ?_) hd2
  refine PyProof.Rows.in_str ⟨?_, keeps_refl _⟩
  rw [PySem.StrLaws.found_one]
/-- a or b -/
theorem eg_or {X : Cx} {scope : Scope} {x : Str} {a b : Expr} {pa pb : Nat → Bool} {pos : Pos} (ha : EltG X scope x a pa) (hb : EltG X scope x b pb) : EltG X scope x (.BoolOp .Or [a, b] pos) (fun c => pa c || pb c) := by
  intro en B E' c t z m hs hg hbs hns hgl hn hm
  refine BoolOp_or (wpAny_mono (ha en B _ c t z m hs hg hbs hns hgl hn hm) (fun y z' ⟨e, ⟨h', tk, e2, kp⟩⟩ => ?_) fun _ _ e => e)
  subst e
  subst e2
  refine wpAny_truthy_bool ?_
  cases hc : pa c with
  | true => exact ⟨by show _ = Value.bool (pa c || pb c); rw [hc]; rfl, h', tk, rfl, kp⟩
  | false =>
    refine BoolOp_one (wpAny_mono (hb en B E' c t _ m hs hg (fun b o e => kp b o (hbs b o e)) hns hgl (hn.keeps kp) hm) (fun y z' ⟨e, ⟨h2, tk2, e2, kp2⟩⟩ => ?_) fun _ _ e => e)
    subst e
    subst e2
    exact ⟨by show _ = Value.bool (pa c || pb c); rw [hc]; rfl, h2, tk2, rfl, fun b o q => kp2 b o (kp b o q)⟩
end Gr

set_option Elab.async false
set_option maxRecDepth 100000
set_option maxHeartbeats 4000000
set_option linter.all false
/-! Ours: enumerate over a text, with or without a start told by its name; o.f |= e; a def called with keywords alone. -/
namespace Gr
open PySem PySem.Spec PyProof.Rows L2

/-- pairs (c + i, the sign at i) of a text, each a new one -/
def Itx (x : Str) (c : Int) : It := ⟨fun i _ => i < x.cps.size, fun i H v H' => ∃ T d, v = .ref T ∧ H T = none ∧ H' = upd H T (.tup [.int (c + (i : Nat)), .str ⟨#[d]⟩]) ∧ x.cps[i]? = some d, fun i _ => x.cps.size = i⟩
def YTx (x : Str) (c : Int) : Nat → Hp → V → Hp → Prop := fun i H v H' => ∃ T d, v = .ref T ∧ H T = none ∧ H' = upd H T (.tup [.int (c + (i : Nat)), .str ⟨#[d]⟩]) ∧ x.cps[i]? = some d
theorem walk_tx {x : Str} {c : Int} : Walk (Itx x c) x.cps.size (fun _ => True) (YTx x c) :=
  ⟨fun _ _ hi _ => hi, fun _ _ => rfl, fun _ _ _ _ _ _ y => y⟩
theorem turn_tx {P : Program} {w : World} {K : PySem.W.Frag} {elts : List Expr} {kk : Nat} {tpos : Pos} {e it : Addr} {x : Str} {t : Tok} {c : Int} :
    Turn P w K (.Tuple elts kk tpos) (Itx x c) [e, it] e (fun i h => (∃ old, IsEnum h e it (c + (i : Int)) old) ∧ h.IsStrIter it (strIterType x) x t i ∧ e ≠ it) where
  mem := List.mem_cons_self
  obj := by
    rintro i h ⟨⟨old, he⟩, ⟨o, ho, hc, hd⟩, _⟩ b hb
    rcases List.mem_cons.mp hb with z | z
    · rw [z]
      exact ⟨_, he, fun v q => nomatch q⟩
    · rw [List.mem_singleton.mp z]
      exact ⟨o, ho, fun v q => by rw [hd] at q; cases q⟩
  keep := by
    rintro i h h' ⟨⟨old, he⟩, ⟨o, ho, r⟩, ne⟩ k
    exact ⟨⟨old, k e (List.mem_cons_self) _ he⟩, ⟨o, k it (by simp) _ ho, r⟩, ne⟩
  item := by
    intro X hP hw hK hc i pins s σ H E I hf st hg
    subst hP hw hK
    obtain ⟨⟨old, he⟩, hit, ne⟩ := st
    have el : e < s.heap.objs.size := Heap.lt_size he
    have il : it < s.heap.objs.size := let ⟨_, q, _⟩ := hit; Heap.lt_size q
    refine wpAny_pyNext_enum_itemC (Draws.text (A := X.A.in1) (I.ok.hd hc) it x t) he hit hg ne (fun z => ne (List.mem_singleton.mp z)) fun u h' tk hu ho hit' hT hz hk => ?_
    obtain ⟨d, tu, hd, rfl⟩ := hu
    refine ⟨_, rfl, wpAny_letOwnedTupleGo_enum (s := { s with heap := h', toks := tk + 1 }) ho fun h'' he' sb => ?_⟩
    have nT : s.heap.objs.size ≠ e := Nat.ne_of_gt el
    have hT2 : h''.get? s.heap.objs.size = some { cls := .type "tuple", data := .seq #[.int (c + (i : Int)) tk, .str ⟨#[d]⟩ tu] } := (sb.2 _ nT).trans hT
    have new : ObjOk X.prog X.w (upd H s.heap.objs.size (.tup [.int (c + (i : Nat)), .str ⟨#[d]⟩])) h'' s.heap.objs.size (.tup [.int (c + (i : Nat)), .str ⟨#[d]⟩]) :=
      ⟨by show 2 ≤ sizeLine; decide, _, .cons ⟨_, rfl⟩ (.cons ⟨_, rfl⟩ .nil), ⟨_, hT2, rfl, _, rfl⟩⟩
    have I1 : Inv X pins σ (upd H s.heap.objs.size (.tup [.int (c + (i : Nat)), .str ⟨#[d]⟩])) { s with heap := h'', toks := tk + 1 } := by
      refine I.turnedNew (ch := [e, it]) (fun b ob hb q => ?_) hf (Nat.le_refl _) new
      have n1 : b ≠ e := fun z => hb (z ▸ List.mem_cons_self)
      have n2 : b ≠ it := fun z => hb (by rw [z]; exact List.mem_cons_of_mem _ List.mem_cons_self)
      exact (sb.2 b n1).trans (hk b ob n1 n2 q)
    refine ⟨.ref s.heap.objs.size, _, I1, rfl, ⟨_, d, rfl, I.hok.fresh (Nat.le_refl _), rfl, hd⟩, ⟨⟨.str ⟨#[d]⟩ tu, ?_⟩, ?_, ne⟩, fun b hb => ?_⟩
    · have q : c + ((i + 1 : Nat) : Int) = c + (i : Int) + 1 := by omega
      rw [q]
      exact he'
    · obtain ⟨o, q, r⟩ := hit'
      exact ⟨o, (sb.2 it (Ne.symm ne)).trans q, r⟩
    · have lb : b < s.heap.objs.size := by
        rcases List.mem_cons.mp hb with z | z
        · rw [z]
          exact el
        · rw [List.mem_singleton.mp z]
          exact il
      rw [upd_ne (Nat.ne_of_lt lb)]
      exact (hf b hb).1
  done := by
    intro X hP hw hK hc i pins s σ H E I hf st hg
    subst hP hw hK
    obtain ⟨⟨old, he⟩, hit, ne⟩ := st
    have hi : x.cps.size = i := hg
    subst hi
    have D := Draws.text (prog := X.prog) (w := X.w) (A := X.A.in1) (I.ok.hd hc) it x t
    obtain ⟨f0, f1, f2, f3, f4, f5⟩ := hf it (by simp)
    exact wpAny_pyNext_enum_endD D he hit fun h' eb => ⟨rfl, I.turned (t' := s.toks) (fun b o hb q => eb b o hb q) f0 f1 f3 f4 f5⟩
  self := fun A i s Q E ⟨⟨_, he⟩, _⟩ h => wpAny_pyIter_enum he h

/-- enumerate(e), e a text; enumerate(e, start=k) -/
def iEnumS (ta : TA) : TI := fun σ H R => ta σ H fun vs H1 => ∃ x, vs = [.str x] ∧ R (Itx x 0) H1
def iEnumK (ta tk : TA) : TI := fun σ H R => ta σ H fun vs H1 => tk σ H1 fun ks H2 => ∃ x k, vs = [.str x] ∧ ks = [.int k] ∧ -(2 ^ 63) ≤ k ∧ k < 2 ^ 63 ∧ R (Itx x k) H2
section
variable {X : Cx} {e f : Expr} {ta tk : TA} {p pos tpos kpos : Pos} {elts : List Expr} {kk : Nat}
theorem begun_tx {pins : List (Addr × Obj)} {σ : L2.St} {H : Hp} {s : Shared} {R : It → Hp → Prop} {x : Str} {t : Tok} {k : Int} {h' : Heap} (I : Inv X pins σ H s)
    (he : IsEnum h' (s.heap.objs.size + 1) s.heap.objs.size k .none) (hit : h'.IsStrIter s.heap.objs.size (strIterType x) x t 0) (hk : ∀ b o, s.heap.get? b = some o → h'.get? b = some o) (q : R (Itx x k) H) :
    PIE X pins σ (.Tuple elts kk tpos) R (.ref (s.heap.objs.size + 1)) { s with heap := h' } := by
  refine ⟨_, [s.heap.objs.size + 1, s.heap.objs.size], _, _, H, rfl, I.kept (t' := s.toks) hk, turn_tx (x := x) (t := t) (c := k), ⟨⟨.none, ?_⟩, hit, Nat.succ_ne_self _⟩, fun b hb => ?_, q⟩
  · have z : k + ((0 : Nat) : Int) = k := by omega
    rw [z]
    exact he
  · have lb : s.heap.objs.size ≤ b := by
      rcases List.mem_cons.mp hb with z | z
      · rw [z]
        exact Nat.le_succ _
      · rw [List.mem_singleton.mp z]
        exact Nat.le_refl _
    exact I.fpOk lb (I.hok.fresh lb)
theorem pi_enumS (hg : Gl X "enumerate") (hm : X.mg "enumerate" = none) (ha : PA X [e] ta) (hs : starEach [e] X.env = [(false, eval e X.env)] := by rfl) :
    PI X (.Tuple elts kk tpos) (.Call (.Name "enumerate" p) [e] [] pos) (iEnumS ta) := by
  refine ⟨fun pins s σ H R I h => Call_ (ld_blt I hg hm boot_enumerate (PyProof.Rows.callWith_type1 (thn (ha.run pos pins s σ H _ I h) ?_) hs rfl))⟩
  rintro us s1 ⟨vs, H1, I1, r1, x, rfl, q⟩
  obtain ⟨u, rfl, ru⟩ := vals1 r1
  obtain ⟨t, rfl⟩ := ru
  exact call_enumerate_str fun h' he hit _ hk => wpAny_pyIter_enum he (begun_tx I1 he hit hk q)
theorem pi_enumK (hg : Gl X "enumerate") (hm : X.mg "enumerate" = none) (ha : PA X [e] ta) (hk : PK X [⟨some ("start" : Str), f, kpos⟩] tk) (hs : starEach [e] X.env = (false, eval e X.env) :: starEach [] X.env := by rfl)
    (hpl : ((backTo pos (starEach [e] X.env)).any (·.1) || (backToKw pos (keywordEach [⟨some ("start" : Str), f, kpos⟩] X.env)).any (·.1.isNone)) = false := by rfl) :
    PI X (.Tuple elts kk tpos) (.Call (.Name "enumerate" p) [e] [⟨some ("start" : Str), f, kpos⟩] pos) (iEnumK ta tk) := by
  refine ⟨fun pins s σ H R I h => wpAny_Call_Name_kw (ld_blt I hg hm boot_enumerate ?_)⟩
  refine PySem.W.callWith_of (P := fun _ => True) hpl (fun _ _ => ⟨.machine, .inr (.inl rfl), fun {A' Q' E' s'} _ z => wpAny_pure z⟩) (PyProof.Rows.evalArgs_kw2 (by rfl) (thn (ha.run pos pins s σ H _ I h) ?_) hs)
  rintro us s1 ⟨vs, H1, I1, r1, q⟩
  refine thn (hk.run pos pins s1 σ H1 _ I1 q) ?_
  rintro ws s2 ⟨zs, H2, I2, r2, x, k, rfl, rfl, k0, k1, q⟩
  refine ⟨trivial, ?_⟩
  obtain ⟨u, rfl, ru⟩ := vals1 r1
  obtain ⟨t, rfl⟩ := ru
  obtain ⟨u2, rfl, ru2⟩ := vals1 r2
  obtain ⟨t2, rfl⟩ := ru2
  refine enum_begins_start (begins_text x t) trivial k0 k1 fun h' he ho _ hk => wpAny_pyIter_enum he (begun_tx I2 he ⟨_, ho, rfl, rfl⟩ hk q)
end

/-! ### o.f |= e -/
def rOr : V → V → Hp → VK → Prop := fun x y H Q => ∃ i j, x = .int i ∧ y = .int j ∧ Q (.int (Builtin.bitOr i j)) H
theorem in_or {X : Cx} : InOp X .BitOr rOr := by
  rintro pins s σ H x y u v Q I rx ry ⟨i, j, rfl, rfl, q⟩
  obtain ⟨t, rfl⟩ := id rx
  obtain ⟨t', rfl⟩ := id ry
  exact PyProof.Rows.ior_int ⟨.int (Builtin.bitOr i j), H, I.tok _, ⟨_, rfl⟩, q⟩

/-! ### f(k = e, ..) -/
section
variable {X : Cx} {CX : CXT} {k : Nat} {f : Addr} {fd : FuncData} {ps ks : List Str} {sp : Sp} {E : XK} {x : Str} {p pos : Pos} {tk : TA} {g : List Value → List Value → List Value} {gV : List V → List V → List V} {kws : List Keyword}
theorem pe_callK0 (F : FnOk X.prog X.w X.K X.mg X.base CX k f fd ps sp) (hr : Room k X.A) (hg : Gl X x) (hm : X.mg x = some (.ref f)) (hk : PySem.W.keepIn X.K (.ref f) = true) (hb : KBinds X.K fd ps ks g gV) (hx : Passes CX X E) (hkw : PK X kws tk)
    (hall : (backToKw pos (keywordEach kws X.env)).all (·.1.isSome) = true := by rfl) (hks : (backToKw pos (keywordEach kws X.env)).filterMap (·.1) = ks := by rfl) (hdb : (x == ("__debug__" : Str)) = false := by decide)
    (hpl : ((backTo pos (starEach [] X.env)).any (·.1) || (backToKw pos (keywordEach kws X.env)).any (·.1.isNone)) = false := by rfl) :
    PE X (.Call (.Name x p) [] kws pos) (tCallK sp gV E tNil tk) := by
  refine ⟨fun pins s σ H Q I h => wpAny_Call_Name_kw (ld_glob I hg hm ?_ hdb)⟩
  refine PySem.W.callWith_KW0 (h₀ := X.base) I.ok.mod.kin hk hall (thn (hkw.run pos pins s σ H _ I h) ?_) hpl
  rintro ws s2 ⟨zs, H2, I2, rz, q⟩
  refine ⟨I2.kIn, ?_⟩
  rw [hks]
  exact run_fnk F hr hb hx I2 .nil rz q
end
end Gr

set_option Elab.async false
set_option maxRecDepth 100000
set_option maxHeartbeats 2000000
set_option linter.all false
/-! Ours: quiet code: expressions and small defs over data that leave all that stood as it was, whatever frames run around. -/
namespace Gr
open PySem PySem.Spec PyProof.Rows L2 GxR

/-- the value holds the data -/
def Vd (h : Heap) (v : Value) (d : PyData) : Prop := ∃ as, Reads h v d as
theorem Vd.up {h h' : Heap} {v : Value} {d : PyData} (r : Vd h v d) (k : ∀ b o, h.get? b = some o → h'.get? b = some o) : Vd h' v d := let ⟨as, r⟩ := r; ⟨as, PyProof.Rows.Reads.keeps k r⟩
inductive VdAll (h : Heap) : List Value → List PyData → Prop
  | nil : VdAll h [] []
  | cons {v : Value} {vs : List Value} {d : PyData} {ds : List PyData} : Vd h v d → VdAll h vs ds → VdAll h (v :: vs) (d :: ds)
theorem VdAll.up {h h' : Heap} (k : ∀ b o, h.get? b = some o → h'.get? b = some o) : ∀ {vs : List Value} {ds : List PyData}, VdAll h vs ds → VdAll h' vs ds
  | _, _, .nil => .nil
  | _, _, .cons a b => .cons (a.up k) (VdAll.up k b)
theorem VdAll.len {h : Heap} : ∀ {vs : List Value} {ds : List PyData}, VdAll h vs ds → vs.length = ds.length
  | _, _, .nil => rfl
  | _, _, .cons _ b => congrArg (· + 1) (VdAll.len b)
theorem VdAll.get {h : Heap} : ∀ {vs : List Value} {ds : List PyData}, VdAll h vs ds → ∀ {i : Nat} {d : PyData}, ds[i]? = some d → ∃ v, vs[i]? = some v ∧ Vd h v d
  | _, _, .nil, i, d, e => by cases e
  | _, _, .cons a b, 0, d, e => by cases e; exact ⟨_, rfl, a⟩
  | _, _, .cons a b, i + 1, d, e => VdAll.get b e
theorem vd_all {h : Heap} : ∀ {vs : List Value} {ds : List PyData} {as : List Addr}, ReadsAll h vs ds as → VdAll h vs ds
  | _, _, _, .nil => .nil
  | _, _, _, .cons a b => .cons ⟨_, a⟩ (vd_all b)
theorem kk {s s' : Shared} (k : Keeps s s') : ∀ b o, s.heap.get? b = some o → s'.heap.get? b = some o := by
  obtain ⟨h', tk, rfl, q⟩ := k
  exact q
theorem kt {s s' s'' : Shared} (k : Keeps s s') (k' : Keeps s' s'') : Keeps s s'' := by
  obtain ⟨h', tk, rfl, q⟩ := k
  obtain ⟨h2, t2, rfl, q2⟩ := k'
  exact ⟨h2, t2, rfl, fun b o e => q2 b o (q b o e)⟩
theorem Keeps.ns {s s' : Shared} (k : Keeps s s') {L : Addr} {m : Str → Option Value} (h : s.heap.Ns L m) : s'.heap.Ns L m := h.keeps (kk k)

/-- where quiet code stands -/
structure Qc (K : PySem.W.Frag) (mg : Str → Option Value) (base : Heap) (env : Env) : Prop where
  mod : Mod K mg base
  kind : env.scope.kind = .function
  glob : env.globals = mainGlobals
  blt : env.builtins = builtinsNs

/-- what quiet code asks of the state that it runs in -/
structure Qs (base h0 : Heap) (k : Nat) (env : Env) (m : Str → Option Value) (B : Around) (z : Shared) : Prop where
  room : Room k B
  bs : ∀ b o, base.get? b = some o → z.heap.get? b = some o
  up : ∀ b o, h0.get? b = some o → z.heap.get? b = some o
  ns : z.heap.Ns env.locals m
theorem Qs.next {base h0 : Heap} {k : Nat} {env : Env} {m : Str → Option Value} {B : Around} {z z' : Shared} (q : Qs base h0 k env m B z) (e : Keeps z z') : Qs base h0 k env m B z' :=
  ⟨q.room, fun b o x => kk e b o (q.bs b o x), fun b o x => kk e b o (q.up b o x), Keeps.ns e q.ns⟩

section
variable {P : Program} {w : World} {K : PySem.W.Frag} {mg : Str → Option Value} {base h0 : Heap} {k : Nat} {env : Env} {m : Str → Option Value}
/-- e tells d -/
def QE (P : Program) (w : World) (base h0 : Heap) (k : Nat) (env : Env) (m : Str → Option Value) (e : Expr) (d : PyData) : Prop :=
  ∀ (B : Around) (E : Value → Shared → Prop) (z : Shared), Qs base h0 k env m B z → wpAny (model P w) B (eval e env) (fun y z' => Vd z'.heap y d ∧ Keeps z z') E z
def QEs (P : Program) (w : World) (base h0 : Heap) (k : Nat) (env : Env) (m : Str → Option Value) (es : List Expr) (ds : List PyData) : Prop :=
  ∀ (B : Around) (E : Value → Shared → Prop) (z : Shared) (pos : Pos), Qs base h0 k env m B z → wpAny (model P w) B (spliced (backTo pos (starEach es env))) (fun us z' => VdAll z'.heap us ds ∧ Keeps z z') E z
theorem vd_bool {h : Heap} {y : Value} {b : Bool} (r : Vd h y (.bool b)) : y = .bool b := by
  obtain ⟨as, r⟩ := r
  cases r
  rfl
theorem vd_int {h : Heap} {y : Value} {i : Int} (r : Vd h y (.int i)) : ∃ t, y = .int i t := by
  obtain ⟨as, r⟩ := r
  cases r
  exact ⟨_, rfl⟩
theorem vd_tup {h : Heap} {y : Value} {ds : List PyData} (r : Vd h y (.tuple ds)) : ∃ t its, y = .ref t ∧ IsTup h t its ∧ VdAll h its.toList ds := by
  obtain ⟨as, r⟩ := r
  cases r with
  | tuple h1 h2 h3 h4 => exact ⟨_, _, rfl, ⟨_, h1, h2, _, h3⟩, vd_all h4⟩

theorem qe_name {x : Str} {p : Pos} {v : Value} {d : PyData} (C : Qc K mg base env) (hl : env.scope.names.lookup x = some .local) (hm : m x = some v) (hv : Vd h0 v d) (hd : (x == ("__debug__" : Str)) = false := by decide) :
    QE P w base h0 k env m (.Name x p) d := fun B E z q =>
  wpAny_Name (wpAny_loadName_local C.kind hl q.ns hm ⟨hv.up q.up, keeps_refl _⟩) hd
theorem qe_int {i : Int} {j : Nat} {p : Pos} : QE P w base h0 k env m (.Constant (.int i) j p) (.int i) := fun B E z q =>
  wpAny_Constant_int ⟨⟨_, .int _ _⟩, keeps_tok _ _⟩
theorem q_glob {B : Around} {E : Value → Shared → Prop} {z : Shared} {x : Str} {u : Value} {p : Pos} {Q : Value → Shared → Prop} (C : Qc K mg base env) (q : Qs base h0 k env m B z) (hg : env.scope.names.lookup x = some .globalImplicit) (hm : mg x = some u) (h : Q u z) (hd : (x == ("__debug__" : Str)) = false := by decide) :
    wpAny (model P w) B (eval (.Name x p) env) Q E z :=
  Calls.Name_function_global C.kind hg (Calls.loadGlobal_global (by rw [C.glob]; exact C.mod.glob.keeps q.bs) hm h) hd
theorem q_blt {B : Around} {E : Value → Shared → Prop} {z : Shared} {x : Str} {u : Value} {p : Pos} {Q : Value → Shared → Prop} (C : Qc K mg base env) (q : Qs base h0 k env m B z) (hg : env.scope.names.lookup x = some .globalImplicit) (hm : mg x = none) (hv : bootBuiltins x = some u) (h : Q u z)
    (hn : x ≠ "__name__" := by decide) (hd : (x == ("__debug__" : Str)) = false := by decide) : wpAny (model P w) B (eval (.Name x p) env) Q E z := by
  obtain ⟨mb, h1, h2⟩ := C.mod.blt
  exact Calls.Name_function_global C.kind hg (Calls.loadGlobal_builtin (by rw [C.glob]; exact C.mod.glob.keeps q.bs) hm (by rw [C.blt]; exact h1.keeps q.bs) ((h2 x hn).trans hv) h) hd
/-- a whole number of the module -/
theorem qe_gint {x : Str} {p : Pos} {i : Int} {t : Tok} (C : Qc K mg base env) (hg : env.scope.names.lookup x = some .globalImplicit) (hm : mg x = some (.int i t)) (hd : (x == ("__debug__" : Str)) = false := by decide) :
    QE P w base h0 k env m (.Name x p) (.int i) := fun B E z q => q_glob C q hg hm ⟨⟨_, .int _ _⟩, keeps_refl _⟩ hd

theorem qes_nil : QEs P w base h0 k env m [] [] := fun B E z pos q => Calls.spliced_nil ⟨.nil, keeps_refl _⟩
theorem qes_cons {e : Expr} {es : List Expr} {d : PyData} {ds : List PyData} (h1 : QE P w base h0 k env m e d) (h2 : QEs P w base h0 k env m es ds) (hs : starEach (e :: es) env = (false, eval e env) :: starEach es env := by rfl) :
    QEs P w base h0 k env m (e :: es) (d :: ds) := by
  intro B E z pos q
  rw [hs]
  show wpAny _ _ (spliced ((false, eval e env) :: backTo pos (starEach es env))) _ _ z
  refine Calls.spliced_cons (thn (h1 B E z q) fun u z1 ⟨r1, k1⟩ => ?_)
  exact thn (h2 B E z1 pos (q.next k1)) fun us z2 ⟨r2, k2⟩ => ⟨.cons (r1.up (kk k2)) r2, kt k1 k2⟩

/-- isinstance(e, T) -/
theorem qe_isi {e : Expr} {T : Str} {T' : String} {p1 p2 pos : Pos} {d : PyData} {f : PyData → Bool} (C : Qc K mg base env) (he : QE P w base h0 k env m e d) (hg : env.scope.names.lookup ("isinstance" : Str) = some .globalImplicit) (hm : mg "isinstance" = none)
    (hgT : env.scope.names.lookup T = some .globalImplicit) (hmT : mg T = none) (hvT : bootBuiltins T = some (.type T')) (hT1 : T ≠ "__name__") (hT2 : (T == ("__debug__" : Str)) = false)
    (hi : ∀ {A : Around} {E : Value → Shared → Prop} {s : Shared} {v : Value} {d : PyData} {as : List Addr} {Q : Value → Shared → Prop}, Reads s.heap v d as → (∀ tk, s.toks ≤ tk → Q (.bool (f d)) { s with toks := tk }) → wpAny (model P w) A (call (.builtin "isinstance") [v, .type T']) Q E s)
    (hb : bootBuiltins "isinstance" = some (.builtin "isinstance") := by decide +kernel)
    (hs : starEach [e, .Name T p2] env = (false, eval e env) :: starEach [.Name T p2] env := by rfl) (hs2 : starEach [.Name T p2] env = (false, eval (.Name T p2) env) :: starEach [] env := by rfl)
    (hpl : (backTo pos (starEach [.Name T p2] env)).any (·.1) = false := by rfl) :
    QE P w base h0 k env m (.Call (.Name "isinstance" p1) [e, .Name T p2] [] pos) (.bool (f d)) := by
  intro B E z q
  refine wpAny_Call_Name_kw (q_blt C q hg hm hb (PyProof.Rows.callWith_builtin1 ?_ hs hpl))
  rw [hs]
  show wpAny _ _ (spliced ((false, eval e env) :: backTo pos (starEach [.Name T p2] env))) _ _ z
  refine Calls.spliced_cons (thn (he B E z q) fun u z1 ⟨r1, k1⟩ => ?_)
  rw [hs2]
  show wpAny _ _ (spliced ((false, eval (.Name T p2) env) :: backTo pos (starEach [] env))) _ _ z1
  refine Calls.spliced_cons (q_blt C (q.next k1) hgT hmT hvT (Calls.spliced_nil ?_) hT1 hT2)
  obtain ⟨as, r1⟩ := r1
  exact hi r1 fun tk _ => ⟨⟨_, .bool _⟩, kt k1 (keeps_tok _ _)⟩
/-- len(e), e a tuple -/
theorem qe_len {e : Expr} {p1 pos : Pos} {ds : List PyData} (C : Qc K mg base env) (he : QE P w base h0 k env m e (.tuple ds)) (hg : env.scope.names.lookup ("len" : Str) = some .globalImplicit) (hm : mg "len" = none) (hl : ds.length ≤ sizeLine)
    (hs : starEach [e] env = (false, eval e env) :: starEach [] env := by rfl) (hpl : (backTo pos (starEach [] env)).any (·.1) = false := by rfl) :
    QE P w base h0 k env m (.Call (.Name "len" p1) [e] [] pos) (.int ds.length) := by
  intro B E z q
  refine wpAny_Call_Name_kw (q_blt C q hg hm PySem.boot_len (PyProof.Rows.callWith_builtin1 ?_ hs hpl))
  rw [hs]
  show wpAny _ _ (spliced ((false, eval e env) :: backTo pos (starEach [] env))) _ _ z
  refine Calls.spliced_cons (thn (he B E z q) fun u z1 ⟨r1, k1⟩ => Calls.spliced_nil ?_)
  obtain ⟨t, its, rfl, ht, ha⟩ := vd_tup r1
  have hn := line63
  have hz : its.size = ds.length := by
    have := ha.len
    rw [← this, Array.length_toList]
  refine len_tuple ht (by rw [hz]; omega) ⟨?_, kt k1 (keeps_tok _ _)⟩
  rw [hz]
  exact ⟨_, .int _ _⟩
/-- e[i] -/
theorem qe_ix {e : Expr} {i : Nat} {j : Nat} {p pos : Pos} {ds : List PyData} {d : PyData} (he : QE P w base h0 k env m e (.tuple ds)) (hi : ds[i]? = some d) (hl : ds.length ≤ sizeLine) : QE P w base h0 k env m (.Subscript e (.Constant (.int i) j p) pos) d := by
  intro B E z q
  refine Subscript_ (thn (he B E z q) fun u z1 ⟨r1, k1⟩ => wpAny_Constant_int ?_)
  obtain ⟨t, its, rfl, ht, ha⟩ := vd_tup r1
  have hn := line63
  have hz : its.size = ds.length := by
    have := ha.len
    rw [← this, Array.length_toList]
  obtain ⟨hi1, _⟩ := List.getElem?_eq_some_iff.mp hi
  obtain ⟨v, hv, rv⟩ := ha.get hi
  have hv' : its[i]? = some v := by rw [← Array.getElem?_toList]; exact hv
  have hj : seqIndex? (i : Int) its.size = some i := by
    unfold seqIndex?
    have h1 : ¬ ((i : Int) < 0) := by omega
    have h2 : (0 : Int) ≤ (i : Int) ∧ (i : Int) < (its.size : Int) := by omega
    simp [h1, h2]
  refine subscriptTail_builtinR (x := v) ht.typeIs slot_tuple_getitem.lookup (getItem_tuple (j := i) (Q := fun r s' => r = v ∧ (Vd s'.heap r d ∧ Keeps z s')) ht (by omega) (by omega) hj hv' ⟨rfl, rv, kt k1 (keeps_tok _ _)⟩)
/-- a op b of whole numbers -/
theorem qe_cmp {a b : Expr} {op : CmpOp} {i j : Int} {c : Int → Int → Bool} {pos : Pos} (ha : QE P w base h0 k env m a (.int i)) (hb : QE P w base h0 k env m b (.int j))
    (ho : ∀ {A : Around} {E : Value → Shared → Prop} {s : Shared} {t u : Tok} {Q : Value → Shared → Prop}, Q (.bool (c i j)) s → wpAny (model P w) A (compareOp op (.int i t) (.int j u)) Q E s) (hm : behindInMarks op b = false := by with_unfolding_all rfl) :
    QE P w base h0 k env m (.Compare a [op] [b] pos) (.bool (c i j)) := by
  intro B E z q
  refine wpAny_Compare1 (thn (ha B E z q) fun u z1 ⟨r1, k1⟩ => thn (hb B E z1 (q.next k1)) fun v z2 ⟨r2, k2⟩ => ?_) hm
  obtain ⟨t, rfl⟩ := vd_int r1
  obtain ⟨t', rfl⟩ := vd_int r2
  exact ho ⟨⟨_, .bool _⟩, kt k1 k2⟩
/-- a op b op' c -/
theorem qe_chain {a b c : Expr} {op op' : CmpOp} {i j l : Int} {f g : Int → Int → Bool} {pos : Pos} (ha : QE P w base h0 k env m a (.int i)) (hb : QE P w base h0 k env m b (.int j)) (hc : QE P w base h0 k env m c (.int l))
    (ho : ∀ {A : Around} {E : Value → Shared → Prop} {s : Shared} {t u : Tok} {Q : Value → Shared → Prop}, Q (.bool (f i j)) s → wpAny (model P w) A (compareOp op (.int i t) (.int j u)) Q E s)
    (ho' : ∀ {A : Around} {E : Value → Shared → Prop} {s : Shared} {t u : Tok} {Q : Value → Shared → Prop}, Q (.bool (g j l)) s → wpAny (model P w) A (compareOp op' (.int j t) (.int l u)) Q E s)
    (hm : lastMarks [op, op'] [b, c] = false := by with_unfolding_all rfl) : QE P w base h0 k env m (.Compare a [op, op'] [b, c] pos) (.bool (f i j && g j l)) := by
  intro B E z q
  refine Compare_chain (thn (ha B E z q) fun u z1 ⟨r1, k1⟩ => chain_link (thn (hb B E z1 (q.next k1)) fun v z2 ⟨r2, k2⟩ => ?_)) hm
  obtain ⟨t, rfl⟩ := vd_int r1
  obtain ⟨t', rfl⟩ := vd_int r2
  refine ho (wpAny_truthy_bool ?_)
  cases f i j with
  | false => exact ite_ff ⟨⟨_, .bool _⟩, kt k1 k2⟩
  | true =>
    refine ite_tt (chain_last (thn (hc B E z2 ((q.next k1).next k2)) fun x z3 ⟨r3, k3⟩ => ?_))
    obtain ⟨t3, rfl⟩ := vd_int r3
    refine ho' ⟨?_, kt k1 (kt k2 k3)⟩
    rw [Bool.true_and]
    exact ⟨_, .bool _⟩
theorem qe_one {e : Expr} {op : BoolOp} {pos : Pos} {d : PyData} (h : QE P w base h0 k env m e d) : QE P w base h0 k env m (.BoolOp op [e] pos) d := fun B E z q => BoolOp_one (h B E z q)
theorem qe_and {a b : Expr} {rest : List Expr} {x y : Bool} {pos : Pos} (ha : QE P w base h0 k env m a (.bool x)) (hb : x = true → QE P w base h0 k env m (.BoolOp .And (b :: rest) pos) (.bool y)) :
    QE P w base h0 k env m (.BoolOp .And (a :: b :: rest) pos) (.bool (x && y)) := by
  intro B E z q
  refine BoolOp_and (thn (ha B E z q) fun u z1 ⟨r1, k1⟩ => ?_)
  cases vd_bool r1
  refine wpAny_truthy_bool ?_
  cases x with
  | false => exact ite_ff ⟨⟨_, .bool _⟩, k1⟩
  | true => exact ite_tt (thn (hb rfl B E z1 (q.next k1)) fun v z2 ⟨r2, k2⟩ => ⟨r2, kt k1 k2⟩)
theorem qe_or {a b : Expr} {rest : List Expr} {x y : Bool} {pos : Pos} (ha : QE P w base h0 k env m a (.bool x)) (hb : x = false → QE P w base h0 k env m (.BoolOp .Or (b :: rest) pos) (.bool y)) :
    QE P w base h0 k env m (.BoolOp .Or (a :: b :: rest) pos) (.bool (x || y)) := by
  intro B E z q
  refine BoolOp_or (thn (ha B E z q) fun u z1 ⟨r1, k1⟩ => ?_)
  cases vd_bool r1
  refine wpAny_truthy_bool ?_
  cases x with
  | true => exact ite_tt ⟨⟨_, .bool _⟩, k1⟩
  | false => exact ite_ff (thn (hb rfl B E z1 (q.next k1)) fun v z2 ⟨r2, k2⟩ => ⟨r2, kt k1 k2⟩)
theorem qe_not {a : Expr} {x : Bool} {pos : Pos} (ha : QE P w base h0 k env m a (.bool x)) : QE P w base h0 k env m (.UnaryOp .Not a pos) (.bool (!x)) := by
  intro B E z q
  refine UnaryOp_ (thn (ha B E z q) fun u z1 ⟨r1, k1⟩ => ?_)
  cases vd_bool r1
  exact not_of (wpAny_truthy_bool ⟨⟨_, .bool _⟩, k1⟩)
end

/-- a quiet def: whatever runs around, it tells d of the data ds -/
structure QF (P : Program) (w : World) (K : PySem.W.Frag) (mg : Str → Option Value) (base : Heap) (k : Nat) (f : Addr) (fd : FuncData) (ps : List Str) (pre : List PyData → PyData → Prop) : Prop where
  len : ∀ ds d, pre ds d → ds.length = ps.length
  run : ∀ (B : Around) (z : Shared) (args : Args) (us : List Value) (ds : List PyData) (d : PyData), Room k B → (∀ b o, base.get? b = some o → z.heap.get? b = some o) → BindsTo z fd args (ps.zip us) → VdAll z.heap us ds → pre ds d →
    codeAny (model P w) B (.call (.ref f) args) (fun r z' => ∃ y, r = .ok (.ret y) ∧ Vd z'.heap y d ∧ Keeps z z') z
section
variable {P : Program} {w : World} {K : PySem.W.Frag} {mg : Str → Option Value} {base : Heap}
/-- a def of one return, by its expression -/
theorem qf_of {k : Nat} {x ql : Str} {st : Stmt} {f : Addr} {fd : FuncData} {ps : List Str} {pre : List PyData → PyData → Prop} {e : Expr} {pos : Pos} (M : Mod K mg base) (F : Fun K x ql st f fd) (S : FnScope ps ps (defScope st)) (loc : ∀ y ∈ ps, (defScope st).names.lookup y = some .local) (bd : defBody st = [.Return (some e) pos])
    (len : ∀ ds d, pre ds d → ds.length = ps.length)
    (hb : ∀ (env : Env) (m : Str → Option Value) (h0 : Heap) (us : List Value) (ds : List PyData) (d : PyData), env.scope = defScope st → Qc K mg base env → (∀ (i : Nat) (y : Str) (v : Value), ps[i]? = some y → us[i]? = some v → m y = some v) → VdAll h0 us ds → pre ds d → QE P w base h0 k env m e d) :
    QF P w K mg base (k + 1) f fd ps pre := by
  refine ⟨len, fun B z args us ds d hr hbs hbi hv hp => ?_⟩
  obtain ⟨oc, od, kV, doc, pm, an, cdv, ct, osl, rfl, lk, hcd⟩ := F.ex
  have KX : K.In z.heap := M.kin.keeps hbs
  have lim : z.heap.NoLimit := M.nolimit.keeps hbs
  have hlen := len _ _ hp
  have hul : us.length = ps.length := hv.len.trans hlen
  refine codeAny_call_function hr.depth (KX _ _ lk) rfl S.co S.gen rfl (PySem.W.codeRec_of KX hcd) (hbi _ _ _ _ ?_)
  refine wpAny_newFunctionEnv_cells S.kind (fun ⟨n, v⟩ hy => .inl (loc n (List.of_mem_zip hy).1)) fun env he s1 x => ?_
  subst he
  refine ⟨lim.keeps x.toInCall.keep, codeAny_func ?_⟩
  have hk : Keeps z s1 := x.done
  show wpAny _ _ (execs (defBody st) _) _ _ s1
  rw [bd]
  refine wpAny_execs_cons (wpAny_Return_some ?_)
  refine thn (hb _ _ z.heap us ds d rfl ⟨M, S.kind, rfl, rfl⟩ (fun i y v h1 h2 => bindL_get S.nd h1 h2 (loc y (List.mem_of_getElem? h1))) hv hp (B.deeper _) _ s1 ⟨hr.deeper _, fun b o q => kk hk b o (hbs b o q), kk hk, x.toInCall.ns⟩) fun y z2 ⟨r2, k2⟩ => ?_
  exact ⟨y, rfl, r2, kt hk k2⟩
/-- f(e, ..) of a quiet def -/
theorem qe_call {h0 : Heap} {k : Nat} {env : Env} {m : Str → Option Value} {x : Str} {f : Addr} {fd : FuncData} {ps : List Str} {pre : List PyData → PyData → Prop} {e : Expr} {es : List Expr} {ds : List PyData} {d : PyData} {p pos : Pos} (C : Qc K mg base env) (F : QF P w K mg base k f fd ps pre)
    (hg : env.scope.names.lookup x = some .globalImplicit) (hm : mg x = some (.ref f)) (hk : PySem.W.keepIn K (.ref f) = true) (hb : Binds K fd ps []) (ha : QEs P w base h0 k env m (e :: es) ds) (hp : pre ds d) (hdb : (x == ("__debug__" : Str)) = false := by decide)
    (he : starEach (e :: es) env = (false, eval e env) :: starEach es env := by rfl) (hpl : (backTo pos (starEach es env)).any (·.1) = false := by rfl) : QE P w base h0 k env m (.Call (.Name x p) (e :: es) [] pos) d := by
  intro B E z q
  refine wpAny_Call_Name_kw (q_glob C q hg hm (PySem.W.callWith_K (h₀ := base) C.mod.kin hk (thn (ha B E z pos q) fun us z1 ⟨r1, k1⟩ => ⟨C.mod.kin.keeps (q.next k1).bs, ?_⟩) he hpl) hdb)
  have hl : (us ++ []).length = ps.length := by
    rw [List.append_nil, r1.len]
    exact F.len _ _ hp
  refine wpAny_call (codeAny_mono (F.run B z1 ⟨us, []⟩ (us ++ []) ds d q.room (q.next k1).bs (hb z1 us (C.mod.kin.keeps (q.next k1).bs) hl) (by rw [List.append_nil]; exact r1) hp) fun r z2 h => ?_)
  obtain ⟨y, rfl, r2, k2⟩ := h
  exact ⟨r2, kt k1 k2⟩
end
end Gr

set_option Elab.async false
set_option maxRecDepth 100000
set_option maxHeartbeats 2000000
set_option linter.all false
/-! Ours: all(..), any(..) of a generator expression over a tuple whose element is quiet: it may call quiet defs. -/
namespace Gr
open PySem PySem.Spec PyProof.Rows L2 GxR
mutual
/-- data that is read does not stand at an object that is of no class -/
theorem reads_but {h h' : Heap} {P : Addr} {o0 : Obj} (k : ∀ b o, b ≠ P → h.get? b = some o → h'.get? b = some o) (p0 : h.get? P = some o0) (c0 : o0.cls = .none) : ∀ {v : Value} {d : PyData} {as : List Addr}, Reads h v d as → Reads h' v d as
  | _, _, _, .none => .none
  | _, _, _, .bool b => .bool b
  | _, _, _, .int i t => .int i t
  | _, _, _, .str x t => .str x t
  | _, _, _, .list h1 h2 h3 h4 => .list (k _ _ (fun e => by rw [e, p0] at h1; cases h1; rw [c0] at h2; cases h2) h1) h2 h3 (readsAll_but k p0 c0 h4)
  | _, _, _, .tuple h1 h2 h3 h4 => .tuple (k _ _ (fun e => by rw [e, p0] at h1; cases h1; rw [c0] at h2; cases h2) h1) h2 h3 (readsAll_but k p0 c0 h4)
  | _, _, _, .dict h1 h2 h3 h4 h5 => .dict (k _ _ (fun e => by rw [e, p0] at h1; cases h1; rw [c0] at h2; cases h2) h1) h2 h3 (readsAll_but k p0 c0 h4) (readsAll_but k p0 c0 h5)
theorem readsAll_but {h h' : Heap} {P : Addr} {o0 : Obj} (k : ∀ b o, b ≠ P → h.get? b = some o → h'.get? b = some o) (p0 : h.get? P = some o0) (c0 : o0.cls = .none) : ∀ {vs : List Value} {ds : List PyData} {as : List Addr}, ReadsAll h vs ds as → ReadsAll h' vs ds as
  | _, _, _, .nil => .nil
  | _, _, _, .cons a b => .cons (reads_but k p0 c0 a) (readsAll_but k p0 c0 b)
end
/-- a tuple's length has a bound -/
def szD : PyData → Prop
  | .tuple es => es.length ≤ sizeLine
  | _ => True
theorem DqAll.len {K : PySem.W.Frag} {H : Hp} {vs : List V} {ds : List PyData} (h : DqAll K H vs ds) : vs.length = ds.length :=
  DqAll.rec (motive_1 := fun _ _ _ => True) (motive_2 := fun vs ds _ => vs.length = ds.length) trivial (fun _ => trivial) (fun _ => trivial) (fun _ => trivial) (fun _ _ _ => trivial) (fun _ _ _ => trivial) (fun _ _ _ _ _ => trivial) rfl (fun _ _ _ ih => congrArg (· + 1) ih) h
/-- the element over the data d -/
def EltD (X : Cx) (k : Nat) (scope : Scope) (x : Str) (elt : Expr) (pb : PyData → Bool) : Prop :=
  ∀ (en : Env) (m : Str → Option Value) (h0 : Heap) (v : Value) (d : PyData), en.scope = scope → Qc X.K X.mg X.base en → m x = some v → Vd h0 v d → szD d → QE X.prog X.w X.base h0 k en m elt (.bool (pb d))
def trD (pb : PyData → Bool) (l : List PyData) (j : Nat) : Bool := match l[j]? with
  | some d => pb d
  | none => false
theorem trD_all (pb : PyData → Bool) : ∀ l : List PyData, (List.range l.length).all (trD pb l) = l.all pb
  | [] => rfl
  | d :: l => by
    have e : (d :: l).length = l.length + 1 := rfl
    rw [e, List.range_succ_eq_map, List.all_cons, List.all_map, List.all_cons, ← trD_all pb l]
    rfl
theorem trD_any (pb : PyData → Bool) : ∀ l : List PyData, (List.range l.length).any (trD pb l) = l.any pb
  | [] => rfl
  | d :: l => by
    have e : (d :: l).length = l.length + 1 := rfl
    rw [e, List.range_succ_eq_map, List.any_cons, List.any_map, List.any_cons, ← trD_any pb l]
    rfl
section
variable {X : Cx} {pins : List (Addr × Obj)} {σ : L2.St} {H : Hp} {s : Shared}
theorem Dq.sz (I : Inv X pins σ H s) {v : V} {d : PyData} (h : Dq X.K H v d) : szD d := by
  cases h with
  | tup hs ha =>
    obtain ⟨its, r, pl, hz⟩ := I.tuple hs
    show _ ≤ sizeLine
    rw [← ha.len]
    exact hz
  | _ => trivial
theorem DqAll.szs (I : Inv X pins σ H s) {vs : List V} {ds : List PyData} (h : DqAll X.K H vs ds) : ∀ d ∈ ds, szD d :=
  DqAll.rec (motive_1 := fun v d _ => szD d) (motive_2 := fun vs ds _ => ∀ d ∈ ds, szD d) trivial (fun _ => trivial) (fun _ => trivial) (fun _ => trivial) (fun _ _ _ => trivial) (fun hs ha _ => Dq.sz I (.tup hs ha)) (fun _ _ _ _ _ => trivial) (fun d hd => nomatch hd)
    (fun _ _ i1 i2 d hd => by
      rcases List.mem_cons.mp hd with e | e
      · rw [e]; exact i1
      · exact i2 d e) h
/-- the generator g over the data ds, ready to be walked -/
def ReadyD (X : Cx) (pins : List (Addr × Obj)) (σ : L2.St) (H1 : Hp) (P : Addr) (ds : List PyData) (pb : PyData → Bool) (g : Addr) (s5 : Shared) : Prop :=
  ∃ (fp wr : List Addr) (G : Array GenState → Array GenState → Prop) (F : Nat → Value → Prop) (S : Nat → Shared → Prop),
    WalksS X.prog X.w X.A.in1 g fp wr G ds.length F S ∧ S 0 s5 ∧ TruthOf X.prog X.w X.A.in1 F (trD pb ds) ∧ ∀ s', Moved wr G s5 s' → ∃ H2, Tabbed P H1 H2 ∧ Inv X pins σ H2 s'
theorem genD {c P : Addr} {elt iter : Expr} {x : Str} {px gpos : Pos} {scope : Scope} {pb : PyData → Bool} {te : TE} {k : Nat} {W : Value → Shared → Prop} {R : List PyData → Hp → Prop}
    (hr : Room (k + 1) X.A) (TB : TabB X.base X.mg c P) (hcode : X.env.code = .ref c) (S : GenS X.env scope x) (hi : PE X iter te) (hel : EltD X k scope x elt pb)
    (hs : ∀ v, genFold iter X.env v = pure v) (I : Inv X pins σ H s) (h : te σ H fun v H1 => ∃ ds, Dq X.K H1 v (.tuple ds) ∧ TabG H1 P ∧ R ds H1)
    (hQ : ∀ ds H1 g z, R ds H1 → ReadyD X pins σ H1 P ds pb g z → W (.ref g) z) :
    wpAny (model X.prog X.w) X.A (eval (.GeneratorExp elt [⟨.Name x px, iter, [], 0⟩] scope gpos) X.env) W X.xe s := by
  refine wpAny_GeneratorExp_walksQD hr.hd S.co (closure_ok S.free) S.cell S.dot S.loc S.kind hr.depth (thn (hi.run pins s σ H _ I h) ?_) hs
  rintro xv s1 ⟨v, H1, I1, r1, ds, hd, ⟨ps, hP, ht⟩, q1⟩
  obtain ⟨asv, rv, _⟩ := hd.reads I1 xv r1
  obtain ⟨tt, its, rfl, hit, hva⟩ := vd_tup ⟨asv, rv⟩
  have hsz : its.size = ds.length := by rw [← hva.len, Array.length_toList]
  have szs : ∀ d ∈ ds, szD d := by
    cases hd with
    | tup hs2 ha2 => exact DqAll.szs I1 ha2
  have tlt : tt < s1.heap.objs.size := let ⟨_, e, _⟩ := hit; Heap.lt_size e
  refine wpAny_pyIter_tuple hit ⟨I1.nolimit.push _, code_then I1 TB hcode hP ht fun cv h3 tk more up lt hp ht' lim => ?_⟩
  have p0 : s1.heap.get? P = some { cls := .none, data := .fields ps } := I1.hok P _ hP
  have pl : P < s1.heap.objs.size := Heap.lt_size p0
  have at1 : ∀ b, b ∈ [s1.heap.objs.size] → b = s1.heap.objs.size := fun b hb => List.mem_singleton.mp hb
  have cl : cStatics < s1.heap.objs.size := let ⟨_, n, _⟩ := I1.nolimit; n.lt
  have tP : tt ≠ P := fun e => by
    obtain ⟨o, e1, e2, _⟩ := hit
    rw [e, p0] at e1
    cases e1
    cases e2
  have up0 : ∀ b u, b ≠ P → s1.heap.get? b = some u → h3.get? b = some u := fun b u n e => up b u n (Heap.get?_push_of_some _ e)
  have tn : tt ≠ s1.heap.objs.size := Nat.ne_of_lt tlt
  refine ⟨s1.heap.objs.size, [s1.heap.objs.size, tt], [s1.heap.objs.size], its.size, (fun i v => its[i]? = some v), (fun i h => h.IsTupleIter s1.heap.objs.size tt i ∧ h.IsTuple tt its), fun _ => true, fun i y => ∃ d, ds[i]? = some d ∧ y = .bool (pb d), rfl,
    fun A' hh => Walks.tuple hh _ _ tn its, ⟨⟨_, up _ _ (fun e => ?_) (Heap.get?_push_size _ rfl), rfl, rfl⟩, ?_⟩, fun b hb => ?_, lim, fun z => ?_, fun href hh => ?_, ?_⟩
  · rw [← e] at pl
    exact Nat.lt_irrefl _ pl
  · obtain ⟨o, e1, e2⟩ := hit
    exact ⟨o, up0 _ _ tP e1, e2⟩
  · rcases List.mem_cons.mp hb with e | e
    · rw [e]; exact lt
    · rw [List.mem_singleton.mp e]
      exact Nat.lt_trans tlt lt
  · rw [at1 _ z] at cl
    exact Nat.lt_irrefl _ cl
  · constructor
    · intro B E' i v z m _ _ _ _ _ _ _
      rw [List.forIn_nil]
      exact wpAny_pure ⟨rfl, keeps_refl _⟩
    · intro B E' i v z m hB hD hU hv _ hn hm hk
      have hi2 : i < ds.length := by
        have := (Array.getElem?_eq_some_iff.mp hv).1
        omega
      have hdi : ds[i]? = some ds[i] := List.getElem?_eq_getElem hi2
      obtain ⟨v', hv', rv'⟩ := hva.get hdi
      have ev : v' = v := by
        rw [Array.getElem?_toList, hv] at hv'
        exact (Option.some.inj hv').symm
      rw [ev] at rv'
      have keepA : ∀ b o, b ≠ P → s1.heap.get? b = some o → z.heap.get? b = some o := fun b o nb e => by
        have lb : b < s1.heap.objs.size := Heap.lt_size e
        refine hk b (List.mem_range.mpr (Nat.lt_trans lb lt)) (fun q => ?_) _ (hh _ _ (up0 b o nb e))
        rw [at1 b q] at lb
        exact Nat.lt_irrefl _ lb
      have room : Room k B := ⟨hB, by have := hr.dp; omega, by have := hr.un; omega⟩
      -- what is read of the element stands in z's heap
      have rz : Vd z.heap v ds[i] := by
        obtain ⟨as2, r2⟩ := rv'
        exact ⟨as2, reads_but keepA p0 rfl r2⟩
      refine thn (hel _ m z.heap v ds[i] rfl ⟨I1.mod, S.kind, ?_, rfl⟩ hm rz (szs _ (List.getElem_mem hi2)) B E' z ⟨room, fun b o e => ?_, fun _ _ e => e, hn⟩) fun y z' r => ⟨⟨_, hdi, vd_bool r.1⟩, r.2⟩
      · exact I1.ok.glob
      · obtain ⟨e1, e2⟩ := I1.bs b o e
        exact keepA b o (fun q => by rw [q, hP] at e2; cases e2) e1
  · intro g h5 tk5 gs gb ag sz5 k5 W5 hat
    simp only [GxR.passing_true, List.length_range] at W5
    rw [hsz] at W5 hat
    refine hQ ds H1 g _ q1 ⟨_, _, _, _, _, W5.in4_1, hat, ?_, fun s' mv => ?_⟩
    · rintro j y z Q' E' ⟨i, hij, d, hd2, rfl⟩ q
      obtain ⟨hj, ej⟩ := List.getElem?_eq_some_iff.mp hij
      rw [List.getElem_range] at ej
      cases ej
      have q' : Q' (trD pb ds j) z := q
      unfold trD at q'
      rw [hd2] at q'
      exact wpAny_truthy_bool q'
    · have nw : ∀ b u, s1.heap.get? b = some u → b ∉ h3.objs.size :: [s1.heap.objs.size] := fun b u e hb => by
        have l := Heap.lt_size e
        have l2 : s1.heap.objs.size < h3.objs.size := lt
        rcases List.mem_cons.mp hb with z | z
        · rw [z] at l
          exact Nat.lt_asymm l l2
        · rw [at1 b z] at l
          exact Nat.lt_irrefl _ l
      have J := inv_tab (more := more) (h' := s'.heap) (g' := s'.gens) (d' := s'.drawn) (t' := s'.toks) I1 hP (fun b u n e => mv.heap b u (nw b u e) (k5 b u (up0 b u n e))) (mv.heap P _ (nw P _ p0) (k5 P _ hp)) (AllBare.movedS (I1.bare.push gb) mv)
      have es : ({ s1 with heap := s'.heap, gens := s'.gens, drawn := s'.drawn, toks := s'.toks } : Shared) = s' := by
        obtain ⟨_, _, _, _, _⟩ := s'
        have := mv.os
        dsimp only at this
        rw [this]
      rw [es] at J
      exact ⟨upd H1 P (.tbl (ps ++ more)), ⟨⟨_, upd_same, ht'⟩, fun b hb => upd_ne hb⟩, J⟩
def tAllD (K : PySem.W.Frag) (P : Addr) (pb : PyData → Bool) (te : TE) : TE := fun σ H Q => te σ H fun v H1 => ∃ ds, Dq K H1 v (.tuple ds) ∧ TabG H1 P ∧ ∀ H2, Tabbed P H1 H2 → Q (.bl (ds.all pb)) H2
/-- all(elt for x in e), e a tuple of data -/
theorem pe_allD {c P : Addr} {elt iter : Expr} {x : Str} {px p pos gpos : Pos} {scope : Scope} {pb : PyData → Bool} {te : TE} {k : Nat}
    (hr : Room (k + 1) X.A) (hg : Gl X "all") (hm : X.mg "all" = none) (TB : TabB X.base X.mg c P) (hcode : X.env.code = .ref c) (S : GenS X.env scope x) (hi : PE X iter te) (hel : EltD X k scope x elt pb)
    (hs : ∀ v, genFold iter X.env v = pure v)
    (he : starEach [.GeneratorExp elt [⟨.Name x px, iter, [], 0⟩] scope gpos] X.env = (false, eval (.GeneratorExp elt [⟨.Name x px, iter, [], 0⟩] scope gpos) X.env) :: starEach [] X.env := by rfl) :
    PE X (.Call (.Name "all" p) [.GeneratorExp elt [⟨.Name x px, iter, [], 0⟩] scope gpos] [] pos) (tAllD X.K P pb te) := by
  refine ⟨fun pins s σ H Q I h => wpAny_Call_Name_kw (ld_blt I hg hm boot_all (PyProof.Rows.callWith_builtin1 ?_ he (by rfl)))⟩
  rw [he]
  show wpAny _ _ (spliced ((false, eval (.GeneratorExp elt [⟨.Name x px, iter, [], 0⟩] scope gpos) X.env) :: backTo pos (starEach [] X.env))) _ _ s
  refine Calls.spliced_cons (genD (R := fun ds H1 => ∀ H2, Tabbed P H1 H2 → Q (.bl (ds.all pb)) H2) hr TB hcode S hi hel hs I h ?_)
  rintro ds H1 g z hR ⟨fp, wr, G, F, St, W, hst, htr, hI⟩
  refine Calls.spliced_nil (call_all_walkS (W.self 0 _ _ _ hst ⟨g, fp, wr, G, _, F, St, _, rfl, W, hst, htr, fun s' mv => ?_⟩))
  obtain ⟨H2, hT, J⟩ := hI s' mv
  rw [trD_all pb ds]
  exact ⟨.bl _, H2, J, rfl, hR H2 hT⟩
end
end Gr

set_option Elab.async false
set_option maxRecDepth 100000
set_option maxHeartbeats 4000000
set_option linter.all false
/-! Ours: texts as lists of signs. -/
namespace Gr
open PySem PySem.Spec PyProof.Rows L2
theorem same_upd {H : Hp} {a : Addr} {o : HO} (h : H a = none) : Same H (upd H a o) := fun b u e => by
  rw [upd_ne (ne_of_none e h)]
  exact e
theorem tx_ext {a b : Str} (h : a.cps.toList = b.cps.toList) : a = b := by
  obtain ⟨⟨x⟩⟩ := a
  obtain ⟨⟨y⟩⟩ := b
  cases (show x = y from h)
  rfl
theorem tx_len (z : Str) : z.length = z.cps.toList.length := rfl
theorem tx_app (a b : Str) : (a ++ b).cps.toList = a.cps.toList ++ b.cps.toList := by
  rw [PySem.Str.cps_append]
  exact Array.toList_append
theorem tx_starts (z : Str) (c : Nat) : Txt.startswith z ⟨#[c]⟩ = (z.cps.toList[0]? == some c) := by
  have e := PySem.StrLaws.subAt_one z c 0
  unfold Txt.startswith
  rw [Bool.eq_iff_iff, Bool.and_eq_true, decide_eq_true_eq, beq_iff_eq]
  exact e
theorem tx_last (z : Str) (h : 1 ≤ z.length) : z.cps.toList[z.length - 1]? = z.cps.toList.getLast? := by
  rw [List.getLast?_eq_getElem?]
  rfl
theorem tx_ends (z : Str) (c : Nat) : Txt.endswith z ⟨#[c]⟩ = (z.cps.toList.getLast? == some c) := by
  have e := PySem.StrLaws.subAt_one z c (z.length - 1)
  unfold Txt.endswith
  rw [Bool.eq_iff_iff, Bool.and_eq_true, decide_eq_true_eq, beq_iff_eq]
  have l1 : (⟨#[c]⟩ : Str).length = 1 := rfl
  rw [l1]
  rw [l1] at e
  constructor
  · rintro ⟨h1, h2⟩
    rw [← tx_last z (by omega)]
    exact e.mp ⟨by omega, h2⟩
  · intro h
    have hp : 1 ≤ z.length := by
      rw [tx_len]
      cases q : z.cps.toList with
      | nil =>
        rw [q] at h
        cases h
      | cons a r => simp
    rw [← tx_last z hp] at h
    have := e.mpr h
    exact ⟨by omega, this.2⟩
theorem tx_sub0 (z : Str) (n : Nat) : (Builtin.Str.strSub z 0 n).cps.toList = z.cps.toList.take n := by
  unfold Builtin.Str.strSub
  simp
theorem tx_suffix (z : Str) (c : Nat) : (Txt.removesuffix z ⟨#[c]⟩).cps.toList = if z.cps.toList.getLast? == some c then z.cps.toList.dropLast else z.cps.toList := by
  have e := tx_ends z c
  unfold Txt.endswith at e
  have l1 : (⟨#[c]⟩ : Str).length = 1 := rfl
  rw [l1] at e
  unfold Txt.removesuffix
  rw [l1]
  have e2 : (decide (1 ≤ z.length) && Builtin.Str.subAt z ⟨#[c]⟩ (z.length - 1)) = (z.cps.toList.getLast? == some c) := by
    rw [← e, Nat.zero_add]
  rw [e2]
  cases hq : z.cps.toList.getLast? == some c with
  | false => rfl
  | true =>
    have hp : 1 ≤ z.length := by
      rw [hq] at e2
      rw [Bool.and_eq_true, decide_eq_true_eq] at e2
      exact e2.1
    have ne : ¬ (z.length - 1 - 0 == z.length) = true := by
      rw [beq_iff_eq]
      omega
    show (if (z.length - 1 - 0 == z.length) = true then z else Builtin.Str.strSub z 0 (z.length - 1)).cps.toList = _
    rw [if_neg ne, tx_sub0, if_pos rfl, List.dropLast_eq_take]
    rfl
/-! slices -/
theorem cut_head (z : Str) : (cutS z none (some (-1))).cps.toList = z.cps.toList.dropLast := by
  unfold cutS
  show ((z.cps.toList.drop 0).take (HT.sIx z.length z.length (some (-1)) - 0)) = _
  rw [List.drop_zero, List.dropLast_eq_take, Nat.sub_zero]
  congr 1
  unfold HT.sIx
  rw [tx_len]
  simp
  omega
theorem cut_from (z : Str) (n : Nat) : (cutS z (some (n : Int)) none).cps.toList = z.cps.toList.drop n := by
  unfold cutS
  show ((z.cps.toList.drop (HT.sIx z.length 0 (some (n : Int)))).take (HT.sIx z.length z.length none - HT.sIx z.length 0 (some (n : Int)))) = _
  rw [HT.sIx_nat, HT.sIx_none, tx_len]
  by_cases h : n ≤ z.cps.toList.length
  · rw [Nat.min_eq_left h]
    exact List.take_of_length_le (by rw [List.length_drop]; exact Nat.le_refl _)
  · rw [Nat.min_eq_right (by omega), List.drop_of_length_le (Nat.le_refl _), List.drop_of_length_le (by omega), List.take_nil]
theorem cut_to (z : Str) (n : Nat) : (cutS z none (some (n : Int))).cps.toList = z.cps.toList.take n := by
  unfold cutS
  show ((z.cps.toList.drop 0).take (HT.sIx z.length z.length (some (n : Int)) - 0)) = _
  rw [List.drop_zero, HT.sIx_nat, tx_len, Nat.sub_zero]
  by_cases h : n ≤ z.cps.toList.length
  · rw [Nat.min_eq_left h]
  · rw [Nat.min_eq_right (by omega), List.take_of_length_le (Nat.le_refl _), List.take_of_length_le (by omega)]
theorem lit_slash : ("/" : Str) = ⟨#[47]⟩ := by decide +kernel
theorem lit_dollar : ("$" : Str) = ⟨#[36]⟩ := by decide +kernel
theorem lit_star : ("*" : Str) = ⟨#[42]⟩ := by decide +kernel
theorem str_eq_iff (a b : Str) : a = b ↔ a.cps.toList = b.cps.toList := ⟨fun e => by rw [e], tx_ext⟩
theorem one_inj {a b : Nat} : (⟨#[a]⟩ : Str) = ⟨#[b]⟩ ↔ a = b := by
  constructor
  · intro e
    have := congrArg (fun z : Str => z.cps.toList) e
    simpa using this
  · rintro rfl
    rfl
/-! heaps, comprehensions -/
theorem same_into {H H2 : Hp} {D : Addr} {o : HO} (hD : H D = none) (s : Same H H2) : Same H (upd H2 D o) := fun b u e => (upd_ne (ne_of_none e hD)).trans (s b u e)
theorem wipe1 {σ : L2.St} {j : Nat} {v : Option V} : wipe ((wipe σ [j]).set j v) [j] = wipe σ [j] := by simp [wipe]
/-- o.f within a comprehension's block -/
theorem pe_fldB {X : Cx} {s : Shared} {H : Hp} {sc : Scope} {en : Env} {fp : List Addr} {e : Expr} {f : Str} {pos : Pos} {ta : TE} (he : PE (X.blk s H sc en fp) e ta) (hb : attributeBase e f (X.blk s H sc en fp).env (eval e (X.blk s H sc en fp).env) = eval e (X.blk s H sc en fp).env) :
    PE (X.blk s H sc en fp) (.Attribute e f pos) (tFld X.K ta f) := pe_fld he hb
/-! parts that only look -/
theorem and_pure {ta tb : TE} {σ : L2.St} {H : Hp} {Q : VK} (c1 c2 : Bool) (h1 : ∀ Q' : VK, Q' (.bl c1) H → ta σ H Q') (h2 : c1 = true → ∀ Q' : VK, Q' (.bl c2) H → tb σ H Q') (q : Q (.bl (c1 && c2)) H) : tAndV ta tb σ H Q := by
  refine h1 _ ⟨c1, rfl, ?_⟩
  cases c1 with
  | true => exact if_pos rfl ▸ h2 rfl _ q
  | false => exact q
theorem or_pure {ta tb : TE} {σ : L2.St} {H : Hp} {Q : VK} (c1 c2 : Bool) (h1 : ∀ Q' : VK, Q' (.bl c1) H → ta σ H Q') (h2 : c1 = false → ∀ Q' : VK, Q' (.bl c2) H → tb σ H Q') (q : Q (.bl (c1 || c2)) H) : tOrV ta tb σ H Q := by
  refine h1 _ ⟨c1, rfl, ?_⟩
  cases c1 with
  | false => exact if_neg Bool.false_ne_true ▸ h2 rfl _ q
  | true => exact q
def tTruB (K : PySem.W.Frag) (te : TE) : TT := fun σ H Q => te σ H fun x H' => ∃ k, TruV K x H' k ∧ Q k H'
theorem pt_truthB {X : Cx} {s : Shared} {H : Hp} {sc : Scope} {en : Env} {fp : List Addr} {e : Expr} {te : TE} (he : PE (X.blk s H sc en fp) e te) (hi : ∀ whole, isTrue e (X.blk s H sc en fp).env whole = (do let v ← whole; standAt e.pos; holding [v] (truthy v))) :
    PT (X.blk s H sc en fp) e (tTruB X.K te) := pt_truth he hi
end Gr

set_option Elab.async false
set_option maxRecDepth 100000
set_option maxHeartbeats 4000000
set_option linter.all false
/-! Ours: zip of a list and a tuple. -/
namespace Gr
open PySem PySem.Spec PyProof.Rows L2

theorem paired_at {α β : Type} {r : α → β → Prop} : ∀ {xs : List α} {ys : List β}, Paired r xs ys → ∀ {i : Nat} {x : α}, xs[i]? = some x → ∃ y, ys[i]? = some y ∧ r x y
  | _, _, .nil, i, x, h => by cases h
  | _, _, .cons a b, 0, x, h => ⟨_, rfl, by cases h; exact a⟩
  | _, _, .cons a b, i + 1, x, h => paired_at b h
theorem paired_len {α β : Type} {r : α → β → Prop} : ∀ {xs : List α} {ys : List β}, Paired r xs ys → xs.length = ys.length
  | _, _, .nil => rfl
  | _, _, .cons a b => congrArg (· + 1) (paired_len b)
theorem plain_is {h : Heap} {a : Addr} {its : Array Value} (p : PlainL h a its) : h.IsList a its := let ⟨o, n, h1, h2, _, h4⟩ := p; ⟨o, h1, h2, n, h4⟩
theorem in5 {N c : Nat} (h : c ∈ [N + 4, N + 2, N + 3, N, N + 1]) : N ≤ c ∧ c ≤ N + 4 := by
  simp only [List.mem_cons, List.not_mem_nil, or_false] at h
  omega
/-- pairs of the list at a and the tuple at b -/
def ItzM (K : PySem.W.Frag) (a b : Addr) (xs ys : List V) : It :=
  ⟨fun i H => SqL K H a xs ∧ SqT K H b ys ∧ i < xs.length ∧ i < ys.length,
   fun i H v H' => ∃ T x y, v = .ref T ∧ H T = none ∧ H' = upd H T (.tup [x, y]) ∧ xs[i]? = some x ∧ ys[i]? = some y,
   fun i H => SqL K H a xs ∧ SqT K H b ys ∧ i ≤ xs.length ∧ i ≤ ys.length ∧ (i = xs.length ∨ i = ys.length)⟩
def YzM (xs ys : List V) : Nat → Hp → V → Hp → Prop := fun i H v H' => ∃ T x y, v = .ref T ∧ H T = none ∧ H' = upd H T (.tup [x, y]) ∧ xs[i]? = some x ∧ ys[i]? = some y
theorem walk_zipM {K : PySem.W.Frag} {a b : Addr} {xs ys : List V} {n : Nat} (h1 : n = xs.length) (h2 : n = ys.length) : Walk (ItzM K a b xs ys) n (fun H => SqL K H a xs ∧ SqT K H b ys) (YzM xs ys) :=
  ⟨fun i H hi q => ⟨q.1, q.2, by omega, by omega⟩, fun H q => ⟨q.1, q.2, by omega, by omega, .inl h1⟩, fun _ _ _ _ _ _ y => y⟩
theorem turn_zipM {P : Program} {w : World} {K : PySem.W.Frag} {elts : List Expr} {kk : Nat} {tpos : Pos} {a b : Addr} {xs ys : List V} {N : Nat} (ha : a < N) (hb : b < N) :
    Turn P w K (.Tuple elts kk tpos) (ItzM K a b xs ys) [N + 4, N + 2, N + 3, N, N + 1] (N + 4) (fun i h => IsZip h (N + 4) (N + 2) (N + 3) .none ∧ IsTupOf2 h (N + 2) (.ref N) (.ref (N + 1)) ∧ (∃ x y, IsTupOf2 h (N + 3) x y) ∧ h.IsListIter N a i ∧ h.IsTupleIter (N + 1) b i) where
  mem := List.mem_cons_self
  obj := by
    rintro i h ⟨hz, hTI, ⟨_, _, hTO⟩, ⟨o1, e1, _, d1⟩, ⟨o2, e2, _, d2⟩⟩ b hb
    simp only [List.mem_cons, List.not_mem_nil, or_false] at hb
    rcases hb with rfl | rfl | rfl | rfl | rfl
    · exact ⟨_, hz, fun v q => nomatch q⟩
    · exact ⟨_, hTI, fun v q => nomatch q⟩
    · exact ⟨_, hTO, fun v q => nomatch q⟩
    · exact ⟨_, e1, fun v q => by rw [d1] at q; cases q⟩
    · exact ⟨_, e2, fun v q => by rw [d2] at q; cases q⟩
  keep := by
    rintro i h h' ⟨hz, hTI, ⟨x, y, hTO⟩, ⟨o1, e1, r1⟩, ⟨o2, e2, r2⟩⟩ k
    exact ⟨k _ (by simp) _ hz, k _ (by simp) _ hTI, ⟨x, y, k _ (by simp) _ hTO⟩, ⟨o1, k _ (by simp) _ e1, r1⟩, ⟨o2, k _ (by simp) _ e2, r2⟩⟩
  item := by
    intro X hP hw hK hc i pins s σ H E I hf st hg
    subst hP hw hK
    obtain ⟨hz, hTI, ⟨x, y, hTO⟩, it1, it2⟩ := st
    obtain ⟨hL, hT, l1, l2⟩ := hg
    obtain ⟨v1, r1, p1, m1⟩ := I.list hL
    obtain ⟨v2, r2, p2, m2⟩ := I.tuple hT
    have g1 : xs[i]? = some xs[i] := List.getElem?_eq_getElem l1
    have g2 : ys[i]? = some ys[i] := List.getElem?_eq_getElem l2
    obtain ⟨u1, w1, q1⟩ := paired_at r1 g1
    obtain ⟨u2, w2, q2⟩ := paired_at r2 g2
    have n1 : i < v1.toArray.size := by rw [List.size_toArray, ← paired_len r1]; exact l1
    have n2 : i < v2.toArray.size := by rw [List.size_toArray, ← paired_len r2]; exact l2
    have sep := zip_sep2 (N := N) (fp1 := [a]) (fp2 := [b]) (fun c hc => by rw [List.mem_singleton.mp hc]; exact ha) (fun c hc => by rw [List.mem_singleton.mp hc]; exact hb)
    have zl : N + 4 < s.heap.objs.size := Heap.lt_size hz
    refine wpAny_pyNext_zipD2_item sep (Draws.list (A := X.A.in1) (I.ok.hd hc) N a (Nat.ne_of_lt ha) v1.toArray) (Draws.tuple (A := X.A.in1) (I.ok.hd hc) (N + 1) b (Nat.ne_of_lt (Nat.lt_succ_of_lt hb)) v2.toArray)
      hz hTI hTO ⟨it1, ?_⟩ ⟨it2, ?_⟩ n1 n2 fun x1 x2 h' tk e1 e2 hz' hTO' st1 st2 hT' hs' hk => ?_
    · exact plain_is p1
    · exact p2
    have ex1 : x1 = u1 := by
      have : v1[i]? = some x1 := (List.getElem?_toArray (xs := v1) (i := i)).symm.trans e1
      rw [w1] at this
      exact (Option.some.inj this).symm
    have ex2 : x2 = u2 := by
      have : v2[i]? = some x2 := (List.getElem?_toArray (xs := v2) (i := i)).symm.trans e2
      rw [w2] at this
      exact (Option.some.inj this).symm
    refine ⟨_, rfl, wpAny_letOwnedTupleGo_zip hz' fun h'' hz'' sb => ?_⟩
    have nT : s.heap.objs.size ≠ N + 4 := Nat.ne_of_gt zl
    have hT2 : h''.get? s.heap.objs.size = some { cls := .type "tuple", data := .seq #[x1, x2] } := (sb.2 _ nT).trans hT'
    have new : ObjOk X.prog X.w (upd H s.heap.objs.size (.tup [xs[i], ys[i]])) h'' s.heap.objs.size (.tup [xs[i], ys[i]]) :=
      ⟨by show 2 ≤ sizeLine; decide, _, .cons (ex1 ▸ q1) (.cons (ex2 ▸ q2) .nil), ⟨_, hT2, rfl, _, rfl⟩⟩
    have I1 : Inv X pins σ (upd H s.heap.objs.size (.tup [xs[i], ys[i]])) { s with heap := h'', toks := tk } := by
      refine I.turnedNew (ch := [N + 4, N + 2, N + 3, N, N + 1]) (fun b ob hb q => ?_) hf (Nat.le_refl _) new
      simp only [List.mem_cons, List.not_mem_nil, or_false, not_or] at hb
      exact (sb.2 b hb.1).trans (hk b ob hb.1 hb.2.2.1 hb.2.2.2.1 hb.2.2.2.2 q)
    have tInz : N + 2 ≠ N + 4 := by omega
    have n23 : N + 2 ≠ N + 3 := by omega
    have n20 : N + 2 ≠ N := by omega
    have n21 : N + 2 ≠ N + 1 := by omega
    have tOnz : N + 3 ≠ N + 4 := by omega
    have i1nz : N ≠ N + 4 := by omega
    have i2nz : N + 1 ≠ N + 4 := by omega
    refine ⟨.ref s.heap.objs.size, _, I1, rfl, ⟨_, _, _, rfl, I.hok.fresh (Nat.le_refl _), rfl, g1, g2⟩, ⟨hz'', ?_, ⟨x1, x2, (sb.2 _ tOnz).trans hTO'⟩, ?_, ?_⟩, fun c hc => ?_⟩
    · exact (sb.2 _ tInz).trans (hk _ _ tInz n23 n20 n21 hTI)
    · obtain ⟨o, q, r⟩ := st1.1
      exact ⟨o, (sb.2 _ i1nz).trans q, r⟩
    · obtain ⟨o, q, r⟩ := st2.1
      exact ⟨o, (sb.2 _ i2nz).trans q, r⟩
    · have lc : c < s.heap.objs.size := Nat.lt_of_le_of_lt (in5 hc).2 zl
      rw [upd_ne (Nat.ne_of_lt lc)]
      exact (hf c hc).1
  done := by
    intro X hP hw hK hc i pins s σ H E I hf st hg
    subst hP hw hK
    obtain ⟨hz, hTI, ⟨x, y, hTO⟩, it1, it2⟩ := st
    obtain ⟨hL, hT, l1, l2, e⟩ := hg
    obtain ⟨v1, r1, p1, m1⟩ := I.list hL
    obtain ⟨v2, r2, p2, m2⟩ := I.tuple hT
    have s1 : v1.toArray.size = xs.length := by rw [List.size_toArray, ← paired_len r1]
    have s2 : v2.toArray.size = ys.length := by rw [List.size_toArray, ← paired_len r2]
    have sep := zip_sep2 (N := N) (fp1 := [a]) (fp2 := [b]) (fun c hc => by rw [List.mem_singleton.mp hc]; exact ha) (fun c hc => by rw [List.mem_singleton.mp hc]; exact hb)
    refine wpAny_pyNext_zipD2_end sep (Draws.list (A := X.A.in1) (I.ok.hd hc) N a (Nat.ne_of_lt ha) v1.toArray) (Draws.tuple (A := X.A.in1) (I.ok.hd hc) (N + 1) b (Nat.ne_of_lt (Nat.lt_succ_of_lt hb)) v2.toArray)
      hz hTI hTO ⟨it1, ?_⟩ ⟨it2, ?_⟩ (by omega) (by omega) (by omega) fun h' tk hk => ⟨rfl, I.turnedL (ch := [N + 4, N + 2, N + 3, N, N + 1]) (fun c o hc q => ?_) hf⟩
    · exact plain_is p1
    · exact p2
    · simp only [List.mem_cons, List.not_mem_nil, or_false, not_or] at hc
      exact hk c o hc.1 hc.2.2.1 hc.2.2.2.1 hc.2.2.2.2 q
  self := fun A i s Q E ⟨hz, _⟩ h => wpAny_pyIter_zip hz h
/-- zip(xs, ys), a list and a tuple -/
def iZipM (K : PySem.W.Frag) (ta : TA) : TI := fun σ H R => ta σ H fun vs H1 => ∃ a b xs ys, vs = [.ref a, .ref b] ∧ SqL K H1 a xs ∧ SqT K H1 b ys ∧ R (ItzM K a b xs ys) H1
section
variable {X : Cx} {e e2 : Expr} {ta : TA} {p pos tpos : Pos} {elts : List Expr} {kk : Nat}
theorem pi_zipM (hg : Gl X "zip") (hm : X.mg "zip" = none) (ha : PA X [e, e2] ta) (hs : starEach [e, e2] X.env = (false, eval e X.env) :: starEach [e2] X.env := by rfl) (hpl : ((backTo pos (starEach [e2] X.env)).any (·.1)) = false := by rfl) :
    PI X (.Tuple elts kk tpos) (.Call (.Name "zip" p) [e, e2] [] pos) (iZipM X.K ta) := by
  refine ⟨fun pins s σ H R I h => Call_ (ld_blt I hg hm boot_zip (PyProof.Rows.callWith_type1 (thn (ha.run pos pins s σ H _ I h) ?_) hs hpl))⟩
  rintro us s1 ⟨vs, H1, I1, r1, a, b, xs, ys, rfl, hL, hT, q⟩
  obtain ⟨v1, q1, p1, m1⟩ := I1.list hL
  obtain ⟨v2, q2, p2, m2⟩ := I1.tuple hT
  match us, r1 with
  | _, .cons (b := _) e1 (.cons (b := _) e2 .nil) =>
  cases e1
  cases e2
  have la : a < s1.heap.objs.size := let ⟨_, _, e, _⟩ := p1; Heap.lt_size e
  have lb : b < s1.heap.objs.size := let ⟨_, e, _⟩ := p2; Heap.lt_size e
  refine zip_begins2 (begins_list a v1.toArray) (begins_tuple b v2.toArray) ?_ ?_ fun h' hz hTI hTO e1 e2 hs hk => wpAny_pyIter_zip hz ⟨_, [s1.heap.objs.size + 4, s1.heap.objs.size + 2, s1.heap.objs.size + 3, s1.heap.objs.size, s1.heap.objs.size + 1], _, _, H1, rfl, I1.kept (t' := s1.toks) hk, turn_zipM (xs := xs) (ys := ys) la lb, ⟨hz, hTI, ⟨_, _, hTO⟩, ⟨_, e1, rfl, rfl⟩, ⟨_, e2, rfl, rfl⟩⟩, fun c hc => ?_, q⟩
  · exact plain_is p1
  · exact p2
  · have lc : s1.heap.objs.size ≤ c := (in5 hc).1
    exact I1.fpOk lc (I1.hok.fresh lc)
end
end Gr

set_option Elab.async false
set_option maxRecDepth 100000
set_option maxHeartbeats 4000000
set_option linter.all false
/-! Ours: xs < ys of lists; (n, s) < (m, t) of tuples of an int and a text. -/
namespace Gr
open PySem PySem.Spec PyProof.Rows L2
theorem l_items {M : Model} {A : Around} {E : Value → Shared → Prop} {s : Shared} {l : Addr} {items : Array Value} {n : Nat} {dd : Option Addr} {sl : Array (Option Value)} {Q : Array Value → Shared → Prop}
    (hl : s.heap.get? l = some { cls := .type "list", dict := dd, data := .seq items n, slots := sl }) (q : Q items s) : wpAny M A (Builtin.List.listItems (.ref l)) Q E s := by
  obtain ⟨hp, g, d, tk, os⟩ := s
  unfold Builtin.List.listItems
  refine wpAny_bind ?_
  unfold seqItems?
  exact wpAny_bind (wpAny_load' hl (wpAny_pure (wpAny_pure q)))
theorem lt_loopAt (l b : Addr) (items items2 : Array Value) (n n2 : Nat) (dd dd2 : Option Addr) (sl sl2 : Array (Option Value)) (e r : Nat → Bool) :
    ∀ (k i : Nat), i + k = min items.size items2.size → Meets (Builtin.«list.__eq__.loop» { pos := [.ref l, .ref b, rawInt (i : Nat), rawInt 0] }) fun A R s =>
      s.heap.get? l = some { cls := .type "list", dict := dd, data := .seq items n, slots := sl } ∧ s.heap.get? b = some { cls := .type "list", dict := dd2, data := .seq items2 n2, slots := sl2 } ∧
        (∀ (j : Nat) (h1 : j < items.size) (h2 : j < items2.size), SeqAt.EqAt A.in1 s items[j] items2[j] (e j)) ∧
        (∀ (j : Nat) (h1 : j < items.size) (h2 : j < items2.size), e j = false → Ob.RcOp .Lt A.in1 s items[j] items2[j] (r j)) ∧
          R (.ok (.ret (.bool (Ob.lexAt e r (decide (items.size < items2.size)) i k)))) s
  | 0, i, hk => by
    rintro prog w A R s ⟨hl, hb, he, hr, h⟩
    refine wpAny_bind (l_items hl (wpAny_bind (l_items hb ?_)))
    have fin : wpAny (model prog w) A.in1 (do
        let xs ← Builtin.List.listItems (.ref l)
        let ys ← Builtin.List.listItems (.ref b)
        ret (.bool (decide (xs.size < ys.size)))) (fun fin s' => match fin with
          | .done f => R (.ok f) s'
          | .again c' => c'.quiet = true ∧ codeAny (model prog w) A c' R s') (fun e s' => R (.error e) s') s :=
      wpAny_bind (l_items hl (wpAny_bind (l_items hb (wpAny_pure h))))
    by_cases q : items.size ≤ i
    · have e1 : items[((i : Nat) : Int).toNat]? = none := Array.getElem?_eq_none q
      rw [e1]
      exact fin
    · have e1 : items[((i : Nat) : Int).toNat]? = some items[i] := Array.getElem?_eq_getElem (by omega)
      have e2 : items2[((i : Nat) : Int).toNat]? = none := Array.getElem?_eq_none (show items2.size ≤ i by omega)
      rw [e1, e2]
      exact fin
  | k + 1, i, hk => by
    rintro prog w A R s ⟨hl, hb, he, hr, h⟩
    refine wpAny_bind (l_items hl (wpAny_bind (l_items hb ?_)))
    have h1 : i < items.size := by omega
    have h2 : i < items2.size := by omega
    have e1 : items[((i : Nat) : Int).toNat]? = some items[i] := Array.getElem?_eq_getElem h1
    have e2 : items2[((i : Nat) : Int).toNat]? = some items2[i] := Array.getElem?_eq_getElem h2
    rw [e1, e2]
    refine wpAny_bind (he i h1 h2 prog w _ _ ?_)
    rw [Ob.lexAt_succ] at h
    cases hc : e i with
    | true =>
      rw [hc] at h
      have hs : (((i : Nat) : Int) + 1) = ((i + 1 : Nat) : Int) := rfl
      refine wpAny_pure ⟨plainId_quiet MeetsSeq3.plain_eq_loop _, codeAny_builtin MeetsSeq3.entry_eq_loop ?_⟩
      have := lt_loopAt l b items items2 n n2 dd dd2 sl sl2 e r k (i + 1) (by omega) prog w A R s ⟨hl, hb, he, hr, h⟩
      exact this
    | false =>
      rw [hc] at h
      refine wpAny_bind (l_items hl (wpAny_bind (l_items hb ?_)))
      rw [e1, e2]
      exact wpAny_bind (hr i h1 h2 hc prog w _ _ (wpAny_pure h))
theorem list_ltAt (l b : Addr) (items items2 : Array Value) (n n2 : Nat) (dd dd2 : Option Addr) (sl sl2 : Array (Option Value)) (e r : Nat → Bool) :
    Meets (Builtin.«list.__lt__» { pos := [.ref l, .ref b] }) fun A R s =>
      s.heap.get? l = some { cls := .type "list", dict := dd, data := .seq items n, slots := sl } ∧ s.heap.get? b = some { cls := .type "list", dict := dd2, data := .seq items2 n2, slots := sl2 } ∧
        (∀ (j : Nat) (h1 : j < items.size) (h2 : j < items2.size), SeqAt.EqAt A.in1 s items[j] items2[j] (e j)) ∧
        (∀ (j : Nat) (h1 : j < items.size) (h2 : j < items2.size), e j = false → Ob.RcOp .Lt A.in1 s items[j] items2[j] (r j)) ∧
          R (.ok (.ret (.bool (Ob.lexAt e r (decide (items.size < items2.size)) 0 (min items.size items2.size))))) s := by
  rintro prog w A R ⟨hp, g, d, tk, os⟩ ⟨hl, hb, he, hr, h⟩
  have f3 := AutoSeq1.sub_list_list
  refine wpAny_bind ?_
  unfold slotArgs
  refine wpAny_ite_false rfl (wpAny_ite_false rfl (wpAny_pure ?_))
  refine wpAny_bind (wpAny_bind (wpAny_bind (wpAny_loadPart' hb (wpAny_pure (wpAny_of_eq f3 ?_)))))
  refine wpAny_ite_false rfl (wpAny_ite_false rfl ?_)
  refine wpAny_pure ⟨plainId_quiet MeetsSeq3.plain_eq_loop _, codeAny_builtin MeetsSeq3.entry_eq_loop ?_⟩
  exact lt_loopAt l b items items2 n n2 dd dd2 sl sl2 e r _ 0 (Nat.zero_add _) prog w A R _ ⟨hl, hb, he, hr, h⟩
theorem lists_lt {A : Around} {s : Shared} {l b : Addr} {items items2 : Array Value} {e r : Nat → Bool} (hl : s.heap.IsList l items) (hb : s.heap.IsList b items2) (hu : A.units < cLine)
    (he : ∀ (j : Nat) (h1 : j < items.size) (h2 : j < items2.size), SeqAt.EqAt A.in1 s items[j] items2[j] (e j))
    (hr : ∀ (j : Nat) (h1 : j < items.size) (h2 : j < items2.size), e j = false → Ob.RcOp .Lt A.in1 s items[j] items2[j] (r j)) :
    Ob.RcOp .Lt A s (.ref l) (.ref b) (Ob.lexAt e r (decide (items.size < items2.size)) 0 (min items.size items2.size)) := by
  intro prog w E Q h
  obtain ⟨⟨cls, dd, data, sl⟩, ho, hc, n, hd⟩ := id hl
  obtain ⟨⟨cls2, dd2, data2, sl2⟩, ho2, hc2, n2, hd2⟩ := id hb
  dsimp only at hc hd hc2 hd2
  subst hc hd hc2 hd2
  exact richCompare_meets_room ⟨_, ho, rfl⟩ ⟨_, ho2, rfl⟩ F.slot_list_lt F.entry_list_lt (F.args_list_lt_2 (.ref l) (.ref b)) (list_ltAt l b items items2 n n2 dd dd2 sl sl2 e r) ⟨ho, ho2, he, hr, ⟨(fun x => nomatch x), h⟩⟩ hu
theorem rc_str {A : Around} {s : Shared} (x y : Str) (t u : Tok) : Ob.RcOp .Lt A s (.str x t) (.str y u) (decide (x.cps.toList < y.cps.toList)) := fun _ _ _ _ h => PySem.P.lt_str h
theorem lexAt_ints (ns ms : List Int) : ∀ (k i : Nat), i + k = min ns.length ms.length →
    Ob.lexAt (fun j => ns.getD j 0 == ms.getD j 0) (fun j => decide (ns.getD j 0 < ms.getD j 0)) (decide (ns.length < ms.length)) i k = HT.lexLt (ns.drop i) (ms.drop i)
  | 0, i, h => by
    rw [Ob.lexAt_zero]
    by_cases q : ns.length ≤ i
    · rw [List.drop_of_length_le q]
      by_cases q2 : ms.length ≤ i
      · rw [List.drop_of_length_le q2, HT.lexLt_nil_nil]
        exact decide_eq_false (by omega)
      · rw [List.drop_eq_getElem_cons (Nat.lt_of_not_le q2), HT.lexLt_nil_cons]
        exact decide_eq_true (by omega)
    · rw [List.drop_eq_getElem_cons (Nat.lt_of_not_le q), List.drop_of_length_le (show ms.length ≤ i by omega), HT.lexLt_cons_nil]
      exact decide_eq_false (by omega)
  | k + 1, i, h => by
    have h1 : i < ns.length := by omega
    have h2 : i < ms.length := by omega
    have e1 : ns.getD i 0 = ns[i] := by rw [List.getD_eq_getElem?_getD, List.getElem?_eq_getElem h1]; rfl
    have e2 : ms.getD i 0 = ms[i] := by rw [List.getD_eq_getElem?_getD, List.getElem?_eq_getElem h2]; rfl
    rw [Ob.lexAt_succ, List.drop_eq_getElem_cons h1, List.drop_eq_getElem_cons h2, HT.lexLt_cons, lexAt_ints ns ms k (i + 1) (by omega), e1, e2]
    by_cases q : ns[i] = ms[i]
    · rw [if_pos (by simp [q]), if_pos q]
    · rw [if_neg (by simp [q]), if_neg q]
/-- xs < ys, lists of ints -/
def rLtL (K : PySem.W.Frag) : R2 := fun x y H Q => ∃ a b ns ms, x = .ref a ∧ y = .ref b ∧ SqL K H a (ns.map V.int) ∧ SqL K H b (ms.map V.int) ∧ Q (.bl (HT.lexLt ns ms)) H
theorem op_ltL {X : Cx} (hu : X.A.units < cLine) : OpR X (compareOp .Lt) (rLtL X.K) := by
  rintro pins s σ H x y v u Q I rx ry ⟨a, b, ns, ms, rfl, rfl, ha, hb, q⟩
  cases (show v = Value.ref a from rx)
  cases (show u = Value.ref b from ry)
  obtain ⟨v1, r1, p1, m1⟩ := I.list ha
  obtain ⟨v2, r2, p2, m2⟩ := I.list hb
  have i1 := L2.intsAre_of r1
  have i2 := L2.intsAre_of r2
  have l1 : v1.toArray.size = ns.length := by rw [List.size_toArray, ← paired_len r1, List.length_map]
  have l2 : v2.toArray.size = ms.length := by rw [List.size_toArray, ← paired_len r2, List.length_map]
  have at1 : ∀ (j : Nat) (h : j < v1.toArray.size), ∃ t, v1.toArray[j] = Value.int (ns.getD j 0) t := fun j h => i1.int_at j _ (by simp)
  have at2 : ∀ (j : Nat) (h : j < v2.toArray.size), ∃ t, v2.toArray[j] = Value.int (ms.getD j 0) t := fun j h => i2.int_at j _ (by simp)
  have R := lists_lt (A := X.A) (s := s) (e := fun j => ns.getD j 0 == ms.getD j 0) (r := fun j => decide (ns.getD j 0 < ms.getD j 0)) (plain_is p1) (plain_is p2) hu
    (fun j h1 h2 => by
      obtain ⟨t, e1⟩ := at1 j h1
      obtain ⟨t2, e2⟩ := at2 j h2
      rw [e1, e2]
      exact SeqAt.EqAt.int_int _ _ _ _)
    (fun j h1 h2 _ => by
      obtain ⟨t, e1⟩ := at1 j h1
      obtain ⟨t2, e2⟩ := at2 j h2
      rw [e1, e2]
      exact Ob.RcOp.lt_int _ _ _ _)
  rw [l1, l2, lexAt_ints ns ms _ 0 (Nat.zero_add _)] at R
  exact R X.prog X.w X.xe (EP X pins σ Q) ⟨.bl _, H, I, rfl, q⟩
theorem two_vals {x y : V} {us : List Value} (h : Vals [x, y] us) : ∃ a b, us = [a, b] ∧ RelV x a ∧ RelV y b := by
  cases h with
  | cons a b =>
    cases b with
    | cons b c =>
      cases c
      exact ⟨_, _, rfl, a, b⟩
/-- (n, s) < (m, t) -/
def rLtP (K : PySem.W.Frag) : R2 := fun x y H Q => ∃ a b n m p r, x = .ref a ∧ y = .ref b ∧ SqT K H a [.int n, .str p] ∧ SqT K H b [.int m, .str r] ∧ Q (.bl (if n = m then decide (p.cps.toList < r.cps.toList) else decide (n < m))) H
theorem op_ltP {X : Cx} (hu : X.A.units < cLine) : OpR X (compareOp .Lt) (rLtP X.K) := by
  rintro pins s σ H x y v u Q I rx ry ⟨a, b, n, m, p, r, rfl, rfl, ha, hb, q⟩
  cases (show v = Value.ref a from rx)
  cases (show u = Value.ref b from ry)
  obtain ⟨v1, r1, p1, m1⟩ := I.tuple ha
  obtain ⟨v2, r2, p2, m2⟩ := I.tuple hb
  obtain ⟨x1, x2, rfl, f1, f2⟩ := two_vals r1
  obtain ⟨y1, y2, rfl, g1, g2⟩ := two_vals r2
  obtain ⟨t1, rfl⟩ := f1
  obtain ⟨t2, rfl⟩ := f2
  obtain ⟨t3, rfl⟩ := g1
  obtain ⟨t4, rfl⟩ := g2
  have R := Ob.RcOp.tuples_lt (A := X.A) (s := s) (e := fun j => if j = 0 then n == m else p == r) (r := fun j => if j = 0 then decide (n < m) else decide (p.cps.toList < r.cps.toList)) p1 p2 hu
    (fun j h1 h2 => by
      rcases j with _ | _ | j
      · exact SeqAt.EqAt.int_int _ _ _ _
      · exact SeqAt.EqAt.str_str _ _ _ _
      · exact absurd (show j + 1 + 1 < 2 from h1) (by omega))
    (fun j h1 h2 _ => by
      rcases j with _ | _ | j
      · exact Ob.RcOp.lt_int _ _ _ _
      · exact rc_str _ _ _ _
      · exact absurd (show j + 1 + 1 < 2 from h1) (by omega))
  have e : Ob.lexAt (fun j => if j = 0 then n == m else p == r) (fun j => if j = 0 then decide (n < m) else decide (p.cps.toList < r.cps.toList)) false 0 2 = (if n = m then decide (p.cps.toList < r.cps.toList) else decide (n < m)) := by
    rw [Ob.lexAt_succ, Ob.lexAt_succ, Ob.lexAt_zero]
    by_cases h1 : n = m
    · subst h1
      by_cases h2 : p = r
      · subst h2
        simp
      · simp [h2]
    · simp [h1]
  have z1 : ([Value.int n t1, Value.str p t2].toArray.size) = 2 := rfl
  have z2 : ([Value.int m t3, Value.str r t4].toArray.size) = 2 := rfl
  rw [z1, z2, Nat.min_self, decide_eq_false (Nat.lt_irrefl 2), e] at R
  exact R X.prog X.w X.xe (EP X pins σ Q) ⟨.bl _, H, I, rfl, q⟩
end Gr

set_option Elab.async false
set_option maxRecDepth 100000
set_option maxHeartbeats 4000000
set_option linter.all false
/-! Ours: values of any kind as data; tables of generators, any number of them; what stands beside a well. -/
namespace Gr
open PySem PySem.Spec PyProof.Rows L2 GxR
mutual
/-- a value that is data -/
inductive Od (H : Hp) : V → PyData → Prop
  | non : Od H .non .none
  | bl (b : Bool) : Od H (.bl b) (.bool b)
  | int (i : Int) : Od H (.int i) (.int i)
  | str (x : Str) : Od H (.str x) (.str x)
  | lst {a : Addr} {xs : List V} {ds : List PyData} : H a = some (.lst xs) → OdAll H xs ds → Od H (.ref a) (.list ds)
  | tup {a : Addr} {xs : List V} {ds : List PyData} : H a = some (.tup xs) → OdAll H xs ds → Od H (.ref a) (.tuple ds)
  | dic {a : Addr} {kvs : List (Key × V)} {ds : List (PyData × PyData)} : H a = some (.dK kvs) → OdAll H (kvs.map fun p => kV p.1) (ds.map (·.1)) → OdAll H (kvs.map (·.2)) (ds.map (·.2)) → Od H (.ref a) (.dict ds)
inductive OdAll (H : Hp) : List V → List PyData → Prop
  | nil : OdAll H [] []
  | cons {v : V} {vs : List V} {d : PyData} {ds : List PyData} : Od H v d → OdAll H vs ds → OdAll H (v :: vs) (d :: ds)
end
mutual
theorem Od.same {H H' : Hp} (s : Same H H') : ∀ {v : V} {d : PyData}, Od H v d → Od H' v d
  | _, _, .non => .non
  | _, _, .bl b => .bl b
  | _, _, .int i => .int i
  | _, _, .str x => .str x
  | _, _, .lst e a => .lst (s _ _ e) (OdAll.same s a)
  | _, _, .tup e a => .tup (s _ _ e) (OdAll.same s a)
  | _, _, .dic e a b => .dic (s _ _ e) (OdAll.same s a) (OdAll.same s b)
theorem OdAll.same {H H' : Hp} (s : Same H H') : ∀ {vs : List V} {ds : List PyData}, OdAll H vs ds → OdAll H' vs ds
  | _, _, .nil => .nil
  | _, _, .cons a b => .cons (Od.same s a) (OdAll.same s b)
end
mutual
theorem Od.dq {K : PySem.W.Frag} {H : Hp} : ∀ {v : V} {d : PyData}, Od H v d → Dq K H v d
  | _, _, .non => .non
  | _, _, .bl b => .bl b
  | _, _, .int i => .int i
  | _, _, .str x => .str x
  | _, _, .lst e a => .lst (SqL.of e) (OdAll.dq a)
  | _, _, .tup e a => .tup (SqT.of e) (OdAll.dq a)
  | _, _, .dic e a b => .dic e (OdAll.dq a) (OdAll.dq b)
theorem OdAll.dq {K : PySem.W.Frag} {H : Hp} : ∀ {vs : List V} {ds : List PyData}, OdAll H vs ds → DqAll K H vs ds
  | _, _, .nil => .nil
  | _, _, .cons a b => .cons (Od.dq a) (OdAll.dq b)
end
theorem OdAll.len {H : Hp} : ∀ {vs : List V} {ds : List PyData}, OdAll H vs ds → vs.length = ds.length
  | _, _, .nil => rfl
  | _, _, .cons _ b => congrArg (· + 1) (OdAll.len b)
def tyD : PyData → String
  | .none => "NoneType"
  | .bool _ => "bool"
  | .int _ => "int"
  | .str _ => "str"
  | .list _ => "list"
  | .tuple _ => "tuple"
  | .dict _ => "dict"
theorem Od.ty {K : PySem.W.Frag} {H : Hp} {v : V} {d : PyData} (h : Od H v d) : TyX K H v (.type (tyD d)) := by
  cases h with
  | non => exact .base .non
  | bl b => exact .base (.bl b)
  | int i => exact .base (.int i)
  | str x => exact .base (.str x)
  | lst e _ => exact .base (.lst e)
  | tup e _ => exact .base (.tup e)
  | dic e _ _ => exact .base (.dK e)
def isIntD : PyData → Bool
  | .bool _ => true
  | .int _ => true
  | _ => false
def isBoolD : PyData → Bool
  | .bool _ => true
  | _ => false
def isStrD : PyData → Bool
  | .str _ => true
  | _ => false
def isTupD : PyData → Bool
  | .tuple _ => true
  | _ => false
theorem kInt {K : PySem.W.Frag} (d : PyData) : PySem.W.kitOne K (.type (tyD d)) (.type "int") = some (isIntD d) := by
  cases d <;> (refine kit_ty ?_; simp only [tyD, isIntD]; decide +kernel)
theorem kBool {K : PySem.W.Frag} (d : PyData) : PySem.W.kitOne K (.type (tyD d)) (.type "bool") = some (isBoolD d) := by
  cases d <;> (refine kit_ty ?_; simp only [tyD, isBoolD]; decide +kernel)
theorem kStr {K : PySem.W.Frag} (d : PyData) : PySem.W.kitOne K (.type (tyD d)) (.type "str") = some (isStrD d) := by
  cases d <;> (refine kit_ty ?_; simp only [tyD, isStrD]; decide +kernel)
theorem kTup {K : PySem.W.Frag} (d : PyData) : PySem.W.kitOne K (.type (tyD d)) (.type "tuple") = some (isTupD d) := by
  cases d <;> (refine kit_ty ?_; simp only [tyD, isTupD]; decide +kernel)
def wholeD : PyData → Bool
  | .int _ => true
  | _ => false
def spWhole : Sp := fun vs H Q _ => ∃ v d, vs = [v] ∧ Od H v d ∧ Q (.bl (wholeD d)) H
def betwD (d : PyData) (lo hi : Int) : Bool := match d with
  | .int n => decide (lo ≤ n) && decide (n ≤ hi)
  | _ => false
def spBetw : Sp := fun vs H Q _ => ∃ v d lo hi, vs = [v, .int lo, .int hi] ∧ Od H v d ∧ Q (.bl (betwD d lo hi)) H
def rowD (d : PyData) (lo hi : Int) : Bool := match d with
  | .tuple ds => decide (lo ≤ (ds.length : Nat)) && decide (((ds.length : Nat) : Int) ≤ hi)
  | _ => false
def spRow : Sp := fun vs H Q _ => ∃ v d lo hi, vs = [v, .int lo, .int hi] ∧ Od H v d ∧ Q (.bl (rowD d lo hi)) H

/-! ### tables -/
def Tb (ps : List Addr) (H : Hp) : Prop := ∀ p ∈ ps, TabG H p
/-- but for the tables all is as it was -/
def UpL (ps : List Addr) (H H' : Hp) : Prop := Tb ps H' ∧ ∀ b, b ∉ ps → ∀ o, H b = some o → H' b = some o
def Stay (H H' : Hp) : Prop := ∀ a o, H a = some o → (∀ ps, o ≠ .tbl ps) → H' a = some o
theorem tabG_same {H H1 : Hp} {p : Addr} (h : TabG H p) (s : Same H H1) : TabG H1 p := let ⟨ps, a, b⟩ := h; ⟨ps, s _ _ a, b⟩
theorem tabG_tab {H H1 : Hp} {p q : Addr} (h : TabG H q) (t : Tabbed p H H1) : TabG H1 q := by
  by_cases e : q = p
  · rw [e]
    exact t.1
  · obtain ⟨ps, a, b⟩ := h
    exact ⟨ps, (t.2 _ e).trans a, b⟩
section
variable {ps : List Addr} {H H1 H2 : Hp}
theorem Tb.same (h : Tb ps H) (s : Same H H1) : Tb ps H1 := fun p hp => tabG_same (h p hp) s
theorem UpL.refl (h : Tb ps H) : UpL ps H H := ⟨h, fun _ _ _ e => e⟩
theorem UpL.trans (a : UpL ps H H1) (b : UpL ps H1 H2) : UpL ps H H2 := ⟨b.1, fun x n o e => b.2 x n o (a.2 x n o e)⟩
theorem UpL.same (h : Tb ps H) (s : Same H H1) : UpL ps H H1 := ⟨h.same s, fun x _ o e => s x o e⟩
theorem UpL.tab {p : Addr} (h : Tb ps H) (t : Tabbed p H H1) (hp : p ∈ ps) : UpL ps H H1 := ⟨fun q hq => tabG_tab (h q hq) t, fun x n o e => (t.2 x (fun z => n (z ▸ hp))).trans e⟩
theorem UpL.stay (h : Tb ps H) (u : UpL ps H H1) : Stay H H1 := fun a o e n => by
  refine u.2 a (fun z => ?_) o e
  obtain ⟨p1, e1, _⟩ := h a z
  rw [e1] at e
  exact n _ (Option.some.inj e).symm
theorem UpL.put {D : Addr} {xs ys : List V} (u : UpL ps H H1) (n : H D = none) (e : H1 D = some (.lst xs)) : UpL ps H (upd H1 D (.lst ys)) := by
  refine ⟨fun p hp => ?_, fun x m o q => ?_⟩
  · obtain ⟨qs, e1, t⟩ := u.1 p hp
    refine ⟨qs, (upd_ne fun z => ?_).trans e1, t⟩
    rw [z, e] at e1
    cases e1
  · rw [upd_ne (ne_of_none q n)]
    exact u.2 x m o q
end
mutual
theorem Od.stay {H H' : Hp} (s : Stay H H') : ∀ {v : V} {d : PyData}, Od H v d → Od H' v d
  | _, _, .non => .non
  | _, _, .bl b => .bl b
  | _, _, .int i => .int i
  | _, _, .str x => .str x
  | _, _, .lst e a => .lst (s _ _ e (fun _ q => nomatch q)) (OdAll.stay s a)
  | _, _, .tup e a => .tup (s _ _ e (fun _ q => nomatch q)) (OdAll.stay s a)
  | _, _, .dic e a b => .dic (s _ _ e (fun _ q => nomatch q)) (OdAll.stay s a) (OdAll.stay s b)
theorem OdAll.stay {H H' : Hp} (s : Stay H H') : ∀ {vs : List V} {ds : List PyData}, OdAll H vs ds → OdAll H' vs ds
  | _, _, .nil => .nil
  | _, _, .cons a b => .cons (Od.stay s a) (OdAll.stay s b)
end
theorem cutV_to (xs : List V) (n : Nat) : cutV xs none (some (n : Int)) = xs.take n := by
  unfold cutV
  rw [HT.sIx_none, HT.sIx_nat, List.drop_zero, Nat.sub_zero]
  by_cases h : n ≤ xs.length
  · rw [Nat.min_eq_left h]
  · rw [Nat.min_eq_right (by omega), List.take_of_length_le (Nat.le_refl _), List.take_of_length_le (by omega)]
theorem cutV_from (xs : List V) (n : Nat) : cutV xs (some (n : Int)) none = xs.drop n := by
  unfold cutV
  rw [HT.sIx_none, HT.sIx_nat]
  by_cases h : n ≤ xs.length
  · rw [Nat.min_eq_left h]
    exact List.take_of_length_le (by rw [List.length_drop]; exact Nat.le_refl _)
  · rw [Nat.min_eq_right (by omega), List.drop_of_length_le (Nat.le_refl _), List.drop_of_length_le (by omega), List.take_nil]
theorem OdAll.take {H : Hp} : ∀ {vs : List V} {ds : List PyData} (n : Nat), OdAll H vs ds → OdAll H (vs.take n) (ds.take n)
  | _, _, 0, _ => by rw [List.take_zero, List.take_zero]; exact .nil
  | _, _, n + 1, .nil => by rw [List.take_nil, List.take_nil]; exact .nil
  | _, _, n + 1, .cons a b => .cons a (OdAll.take n b)
theorem OdAll.drop {H : Hp} : ∀ {vs : List V} {ds : List PyData} (n : Nat), OdAll H vs ds → OdAll H (vs.drop n) (ds.drop n)
  | _, _, 0, h => h
  | _, _, n + 1, .nil => by rw [List.drop_nil, List.drop_nil]; exact .nil
  | _, _, n + 1, .cons a b => OdAll.drop n b
theorem OdAll.app {H : Hp} : ∀ {vs ws : List V} {ds es : List PyData}, OdAll H vs ds → OdAll H ws es → OdAll H (vs ++ ws) (ds ++ es)
  | _, _, _, _, .nil, h => h
  | _, _, _, _, .cons a b, h => .cons a (OdAll.app b h)
/-- the heap without some addresses -/
def hide (H : Hp) (ls : List Addr) : Hp := fun a => if a ∈ ls then none else H a
theorem hide_same (H : Hp) (ls : List Addr) : Same (hide H ls) H := fun a o e => by
  unfold hide at e
  split at e
  · cases e
  · exact e
theorem same_hide {H H' : Hp} (ls : List Addr) (s : Same H H') : Same (hide H ls) (hide H' ls) := fun a o e => by
  unfold hide at e ⊢
  split at e
  · cases e
  · rename_i n
    rw [if_neg n]
    exact s _ _ e
theorem hide_at {H : Hp} {ls : List Addr} {a : Addr} {o : HO} (e : H a = some o) (n : a ∉ ls) : hide H ls a = some o := by
  unfold hide
  rw [if_neg n]
  exact e
theorem not_hidden {H : Hp} {ls : List Addr} (h : ∀ l ∈ ls, H l ≠ none) {a : Addr} (e : H a = none) : a ∉ ls := fun q => h a q e
def Lit (te : TE) (d : PyData) : Prop := ∀ (ls : List Addr) (σ : L2.St) (H : Hp) (Q : VK), (∀ l ∈ ls, H l ≠ none) → (∀ v H', Same H H' → Od (hide H' ls) v d → Q v H') → te σ H Q
def Lits (ta : TA) (ds : List PyData) : Prop := ∀ (ls : List Addr) (σ : L2.St) (H : Hp) (Q : List V → Hp → Prop), (∀ l ∈ ls, H l ≠ none) → (∀ vs H', Same H H' → OdAll (hide H' ls) vs ds → Q vs H') → ta σ H Q
theorem keep_ls {H H' : Hp} {ls : List Addr} (h : ∀ l ∈ ls, H l ≠ none) (s : Same H H') : ∀ l ∈ ls, H' l ≠ none := fun l hl q => by
  cases e : H l with
  | none => exact h l hl e
  | some o => rw [s _ _ e] at q; cases q
theorem lit_int (i : Int) : Lit (tC (.int i)) (.int i) := fun _ _ _ _ _ k => k _ _ (.refl _) (.int i)
theorem lit_str (x : Str) : Lit (tC (.str x)) (.str x) := fun _ _ _ _ _ k => k _ _ (.refl _) (.str x)
theorem lit_bl (b : Bool) : Lit (tC (.bl b)) (.bool b) := fun _ _ _ _ _ k => k _ _ (.refl _) (.bl b)
theorem lit_non : Lit (tC .non) .none := fun _ _ _ _ _ k => k _ _ (.refl _) .non
theorem lits_nil : Lits tNil [] := fun _ _ _ _ _ k => k _ _ (.refl _) .nil
theorem lits_cons {te : TE} {ta : TA} {d : PyData} {ds : List PyData} (h1 : Lit te d) (h2 : Lits ta ds) : Lits (tCons te ta) (d :: ds) := fun ls σ H Q hl k =>
  h1 ls σ H _ hl fun v H1 s1 o1 => h2 ls σ H1 _ (keep_ls hl s1) fun vs H2 s2 o2 => k _ _ (s1.trans s2) (.cons (o1.same (same_hide ls s2)) o2)
theorem lit_tup {ta : TA} {ds : List PyData} (h : Lits ta ds) (n : ds.length ≤ 60) : Lit (tTup ta) (.tuple ds) := fun ls σ H Q hl k =>
  h ls σ H _ hl fun vs H1 s1 o1 => ⟨by have := o1.len; have mz : 5000 ≤ sizeLine := by decide
                                       omega, fun p hp => k _ _ (s1.trans (same_upd hp)) (.tup (hide_at upd_same (not_hidden (keep_ls hl s1) hp)) (o1.same (same_hide ls (same_upd hp))))⟩
theorem lit_lst {ta : TA} {ds : List PyData} (h : Lits ta ds) (n : ds.length ≤ 60) : Lit (tLst ta) (.list ds) := fun ls σ H Q hl k =>
  h ls σ H _ hl fun vs H1 s1 o1 => ⟨by have := o1.len; have mz : 5000 ≤ sizeLine := by decide
                                       omega, fun p hp => k _ _ (s1.trans (same_upd hp)) (.lst (hide_at upd_same (not_hidden (keep_ls hl s1) hp)) (o1.same (same_hide ls (same_upd hp))))⟩
theorem lit_d0 : Lit tDNewK (.dict []) := fun ls σ H Q hl k p hp => k _ _ (same_upd hp) (.dic (hide_at upd_same (not_hidden hl hp)) .nil .nil)
theorem lit_dx : Lit (tDisp [(tC (.str "x"), tC (.int 1))]) (.dict [(.str "x", .int 1)]) := fun ls σ H Q hl k p hp => by
  refine ⟨upd_same, [(Sum.inr "x", .int 1)], rfl, by decide, ?_⟩
  have e : upd (upd H p (.dK [])) p (.dK (mergeK [] [(Sum.inr "x", .int 1)])) = upd H p (.dK [(Sum.inr "x", .int 1)]) := by
    funext b
    unfold upd
    by_cases h : b = p <;> simp [h] <;> rfl
  rw [e]
  exact k _ _ (same_upd hp) (.dic (hide_at upd_same (not_hidden hl hp)) (.cons (.str _) .nil) (.cons (.int _) .nil))

def hasOne (i : Int) : List PyData → Bool
  | [] => false
  | .int j :: l => (j == i) || hasOne i l
  | _ :: l => hasOne i l
/-- one thing told of any value -/
def spD (ps : List Addr) (dom : PyData → Prop) (f : PyData → Bool) : Sp := fun vs H Q _ => ∃ v d, vs = [v] ∧ Od H v d ∧ dom d ∧ Tb ps H ∧ ∀ H', UpL ps H H' → Q (.bl (f d)) H'
end Gr

set_option Elab.async false
set_option maxRecDepth 100000
set_option maxHeartbeats 4000000
set_option linter.all false
/-! Ours: enumerate over a tuple; a promise with less asked. -/
namespace Gr
open PySem PySem.Spec PyProof.Rows L2 GxR
theorem fn_imp {P : Program} {w : World} {K : PySem.W.Frag} {mg : Str → Option Value} {base : Heap} {CX : CXT} {k : Nat} {f : Addr} {fd : FuncData} {ps : List Str} {sp sp' : Sp} (F : FnOk P w K mg base CX k f fd ps sp) (h : ∀ vs H Q E, sp' vs H Q E → sp vs H Q E) : FnOk P w K mg base CX k f fd ps sp' :=
  ⟨fun vs H Q E q => F.len vs H Q E (h _ _ _ _ q), fun A outer s H args us vs Q E hr e b r q => F.run A outer s H args us vs Q E hr e b r (h _ _ _ _ q)⟩
set_option maxHeartbeats 1000000 in
theorem enum_new1 {v : Value} {o : Obj} {G : Heap → Prop} (B : Begins v o G) :
    Meets (Builtin.«enumerate.__new__» ⟨[.type "enumerate", v], []⟩) (fun _ R z => G z.heap ∧
      R (.ok (.ret (.ref (z.heap.push o).objs.size))) { z with heap := (z.heap.push o).push { cls := .type "enumerate", data := .fields #[.none, .bool false, .ref z.heap.objs.size, rawInt 0, .none, .none] } }) :=
  .of_wp fun prog w A R z hh => by
    obtain ⟨hp, gg, dd, tk, oo⟩ := z
    obtain ⟨g1, rr⟩ := hh
    have sb := sub_enumerate
    have go : ∀ {A1 : Around} {E1 : Value → Shared → Prop} {Q1 : Value → Shared → Prop}, Q1 (.ref hp.objs.size) ⟨hp.push o, gg, dd, tk, oo⟩ → wpAny (model prog w) A1 (pyIter v) Q1 E1 ⟨hp, gg, dd, tk, oo⟩ := fun q => B.iter prog w _ _ ⟨hp, gg, dd, tk, oo⟩ _ g1 q
    wp_walk using go
    refine wpAny_stack_any fun _ => wpAny_pure ?_
    split
    · rename_i cc _ _ _ _ _
      cases (cc == Value.type "enumerate") <;> (wp_walk using go; exact ⟨_, rfl, rr⟩)
    · wp_walk using go
      exact ⟨_, rfl, rr⟩
theorem enum_call1 {prog : Program} {w : World} {A : Around} {E : Value → Shared → Prop} {z : Shared} {v : Value} {o : Obj} {G : Heap → Prop} {Q : Value → Shared → Prop} (B : Begins v o G) (g1 : G z.heap)
    (hQ : ∀ h', IsEnum h' (z.heap.objs.size + 1) z.heap.objs.size 0 .none → h'.get? z.heap.objs.size = some o → (∀ b u, z.heap.get? b = some u → h'.get? b = some u) → Q (.ref (z.heap.objs.size + 1)) { z with heap := h' }) :
    wpAny (model prog w) A (call (.type "enumerate") [v]) Q E z := by
  have e1 : (z.heap.push o).objs.size = z.heap.objs.size + 1 := Heap.size_push ..
  refine callType_new F.called_enumerate (by decide) (F.typeCall_enumerate_1 _) (F.newCall_enumerate_1 _) (fun ob => F.args_object_init_2 ob _) F.entry_enumerate_new (enum_new1 B) ⟨g1, ?_⟩
  show _ ∧ _
  rw [e1]
  have e2 := Heap.get?_push_size (z.heap.push o) (o := { cls := .type "enumerate", data := .fields #[.none, .bool false, .ref z.heap.objs.size, rawInt 0, .none, .none] }) rfl
  rw [e1] at e2
  exact ⟨⟨_, e2, rfl⟩, hQ _ e2 (Heap.get?_push_of_some _ (Heap.get?_push_size _ B.free)) fun b u q => Heap.get?_push_of_some _ (Heap.get?_push_of_some _ q)⟩
/-- pairs (i, the item at i) of a tuple, each a new one -/
def Itp (K : PySem.W.Frag) (a : Addr) (xs : List V) : It := ⟨fun i H => SqT K H a xs ∧ i < xs.length, fun i H v H' => ∃ T x, v = .ref T ∧ H T = none ∧ H' = upd H T (.tup [.int (i : Nat), x]) ∧ xs[i]? = some x, fun i H => SqT K H a xs ∧ xs.length = i⟩
def YTp (xs : List V) : Nat → Hp → V → Hp → Prop := fun i H v H' => ∃ T x, v = .ref T ∧ H T = none ∧ H' = upd H T (.tup [.int (i : Nat), x]) ∧ xs[i]? = some x
theorem walk_tp {K : PySem.W.Frag} {a : Addr} {xs : List V} : Walk (Itp K a xs) xs.length (fun H => SqT K H a xs) (YTp xs) :=
  ⟨fun _ _ hi q => ⟨q, hi⟩, fun _ q => ⟨q, rfl⟩, fun _ _ _ _ _ _ y => y⟩
theorem turn_tp {P : Program} {w : World} {K : PySem.W.Frag} {elts : List Expr} {kk : Nat} {tpos : Pos} {e it a : Addr} {xs : List V} :
    Turn P w K (.Tuple elts kk tpos) (Itp K a xs) [e, it] e (fun i h => (∃ old, IsEnum h e it ((i : Nat) : Int) old) ∧ h.IsTupleIter it a i ∧ e ≠ it ∧ a ≠ it ∧ a ≠ e) where
  mem := List.mem_cons_self
  obj := by
    rintro i h ⟨⟨old, he⟩, ⟨o, ho, hc, hd⟩, _⟩ b hb
    rcases List.mem_cons.mp hb with z | z
    · rw [z]
      exact ⟨_, he, fun v q => nomatch q⟩
    · rw [List.mem_singleton.mp z]
      exact ⟨o, ho, fun v q => by rw [hd] at q; cases q⟩
  keep := by
    rintro i h h' ⟨⟨old, he⟩, ⟨o, ho, r⟩, ne⟩ k
    exact ⟨⟨old, k e (List.mem_cons_self) _ he⟩, ⟨o, k it (by simp) _ ho, r⟩, ne⟩
  item := by
    intro X hP hw hK hc i pins s σ H E I hf st hg
    subst hP hw hK
    obtain ⟨⟨old, he⟩, hit, ne, na, nae⟩ := st
    obtain ⟨hT0, hi⟩ := hg
    obtain ⟨its, rv, pl, hz0⟩ := I.tuple hT0
    have gx : xs[i]? = some xs[i] := List.getElem?_eq_getElem hi
    obtain ⟨uv, hu0, ru⟩ := paired_at rv gx
    have el : e < s.heap.objs.size := Heap.lt_size he
    have il : it < s.heap.objs.size := let ⟨_, q, _⟩ := hit; Heap.lt_size q
    have n1 : i < its.toArray.size := by rw [List.size_toArray, ← paired_len rv]; exact hi
    refine wpAny_pyNext_enum_itemC (Draws.tuple (A := X.A.in1) (I.ok.hd hc) it a na its.toArray) he ⟨hit, pl⟩ n1 ne (fun z => ?_) fun u h' tk hu ho hit' hT hz hk => ?_
    · rcases List.mem_cons.mp z with z | z
      · exact ne z
      · exact nae (List.mem_singleton.mp z).symm
    have eu : u = uv := by
      have : its[i]? = some u := (List.getElem?_toArray (xs := its) (i := i)).symm.trans hu
      rw [hu0] at this
      exact (Option.some.inj this).symm
    refine ⟨_, rfl, wpAny_letOwnedTupleGo_enum (s := { s with heap := h', toks := tk + 1 }) ho fun h'' he' sb => ?_⟩
    have nT : s.heap.objs.size ≠ e := Nat.ne_of_gt el
    have hT2 : h''.get? s.heap.objs.size = some { cls := .type "tuple", data := .seq #[.int ((i : Nat) : Int) tk, u] } := (sb.2 _ nT).trans hT
    have new : ObjOk X.prog X.w (upd H s.heap.objs.size (.tup [.int (i : Nat), xs[i]])) h'' s.heap.objs.size (.tup [.int (i : Nat), xs[i]]) :=
      ⟨by show 2 ≤ sizeLine; decide, _, .cons ⟨_, rfl⟩ (.cons (eu ▸ ru) .nil), ⟨_, hT2, rfl, _, rfl⟩⟩
    have I1 : Inv X pins σ (upd H s.heap.objs.size (.tup [.int (i : Nat), xs[i]])) { s with heap := h'', toks := tk + 1 } := by
      refine I.turnedNew (ch := [e, it]) (fun b ob hb q => ?_) hf (Nat.le_refl _) new
      have n1 : b ≠ e := fun z => hb (z ▸ List.mem_cons_self)
      have n2 : b ≠ it := fun z => hb (by rw [z]; exact List.mem_cons_of_mem _ List.mem_cons_self)
      exact (sb.2 b n1).trans (hk b ob n1 n2 q)
    refine ⟨.ref s.heap.objs.size, _, I1, rfl, ⟨_, _, rfl, I.hok.fresh (Nat.le_refl _), rfl, gx⟩, ⟨⟨u, ?_⟩, ?_, ne, na, nae⟩, fun b hb => ?_⟩
    · have q : ((i + 1 : Nat) : Int) = (i : Int) + 1 := by omega
      rw [q]
      exact he'
    · obtain ⟨o, q, r⟩ := hit'.1
      exact ⟨o, (sb.2 it (Ne.symm ne)).trans q, r⟩
    · have lb : b < s.heap.objs.size := by
        rcases List.mem_cons.mp hb with z | z
        · rw [z]
          exact el
        · rw [List.mem_singleton.mp z]
          exact il
      rw [upd_ne (Nat.ne_of_lt lb)]
      exact (hf b hb).1
  done := by
    intro X hP hw hK hc i pins s σ H E I hf st hg
    subst hP hw hK
    obtain ⟨⟨old, he⟩, hit, ne, na, nae⟩ := st
    obtain ⟨hT0, hi⟩ := hg
    subst hi
    obtain ⟨its, rv, pl, hz0⟩ := I.tuple hT0
    have D := Draws.tuple (prog := X.prog) (w := X.w) (A := X.A.in1) (I.ok.hd hc) it a na its.toArray
    have n1 : its.toArray.size = xs.length := by rw [List.size_toArray, ← paired_len rv]
    obtain ⟨f0, f1, f2, f3, f4, f5⟩ := hf it (by simp)
    rw [n1] at D
    exact wpAny_pyNext_enum_endD D he ⟨hit, pl⟩ fun h' eb => ⟨rfl, I.turned (t' := s.toks) (fun b o hb q => eb b o hb q) f0 f1 f3 f4 f5⟩
  self := fun A i s Q E ⟨⟨_, he⟩, _⟩ h => wpAny_pyIter_enum he h
/-- enumerate(e), e a tuple -/
def iEnumT (K : PySem.W.Frag) (ta : TA) : TI := fun σ H R => ta σ H fun vs H1 => ∃ a xs, vs = [.ref a] ∧ SqT K H1 a xs ∧ R (Itp K a xs) H1
theorem pi_enumT {X : Cx} {e : Expr} {ta : TA} {p pos tpos : Pos} {elts : List Expr} {kk : Nat} (hg : Gl X "enumerate") (hm : X.mg "enumerate" = none) (ha : PA X [e] ta) (hs : starEach [e] X.env = [(false, eval e X.env)] := by rfl) :
    PI X (.Tuple elts kk tpos) (.Call (.Name "enumerate" p) [e] [] pos) (iEnumT X.K ta) := by
  refine ⟨fun pins s σ H R I h => Call_ (ld_blt I hg hm boot_enumerate (PyProof.Rows.callWith_type1 (thn (ha.run pos pins s σ H _ I h) ?_) hs rfl))⟩
  rintro us s1 ⟨vs, H1, I1, r1, a, xs, rfl, hT0, q⟩
  obtain ⟨u, rfl, ru⟩ := vals1 r1
  cases ru
  obtain ⟨its, rv, pl, hz0⟩ := I1.tuple hT0
  have la : a < s1.heap.objs.size := let ⟨_, q, _⟩ := pl; Heap.lt_size q
  refine enum_call1 (begins_tuple a its.toArray) pl fun h' he ho hk => wpAny_pyIter_enum he ⟨_, [s1.heap.objs.size + 1, s1.heap.objs.size], _, _, H1, rfl, I1.kept (t' := s1.toks) hk, turn_tp (a := a) (xs := xs), ⟨⟨.none, he⟩, ⟨_, ho, rfl, rfl⟩, Nat.succ_ne_self _, Nat.ne_of_lt la, Nat.ne_of_lt (Nat.lt_succ_of_lt la)⟩, fun b hb => ?_, q⟩
  have lb : s1.heap.objs.size ≤ b := by
    rcases List.mem_cons.mp hb with z | z
    · rw [z]
      exact Nat.le_succ _
    · rw [List.mem_singleton.mp z]
      exact Nat.le_refl _
  exact I1.fpOk lb (I1.hok.fresh lb)
end Gr

set_option Elab.async false
set_option maxRecDepth 100000
set_option maxHeartbeats 4000000
set_option linter.all false
/-! Ours: max(numbers, default=k). -/
namespace Gr
open PySem PySem.Spec PyProof.Rows L2 GxR
def maxI (k : Int) : List Int → Int
  | [] => k
  | n :: ns => ns.foldl max n
theorem ints_reads {h : Heap} : ∀ {ns : List Int} {us : List Value}, Vals (ns.map V.int) us → ∃ as, ReadsAll h us (ns.map PyData.int) as
  | [], _, .nil => ⟨_, .nil⟩
  | n :: ns, _, .cons r t => by
    obtain ⟨tk, rfl⟩ := r
    obtain ⟨as, q⟩ := ints_reads (ns := ns) t
    exact ⟨_, .cons (.int n tk) q⟩
theorem ints_depth (ns : List Int) : PyData.depthAll (ns.map PyData.int) ≤ 2 := by
  induction ns with
  | nil => simp [PyData.depthAll]
  | cons n l ih =>
    simp only [List.map_cons, PyData.depthAll, PyData.depth]
    omega
theorem ints_alike (ns : List Int) : PySem.W.AlikeAll (ns.map PyData.int) := by
  refine ⟨fun x hx y hy => ?_, fun x hx => ?_⟩
  · obtain ⟨a, _, rfl⟩ := List.mem_map.mp hx
    obtain ⟨b, _, rfl⟩ := List.mem_map.mp hy
    rfl
  · obtain ⟨a, _, rfl⟩ := List.mem_map.mp hx
    exact fun z => nomatch z
def rMaxDef (K : PySem.W.Frag) : List V → List V → Hp → VK → Prop := fun vs zs H Q => ∃ (a : Addr) (ns : List Int) (k : Int), vs = [.ref a] ∧ zs = [.int k] ∧ SqL K H a (ns.map V.int) ∧ Q (.int (maxI k ns)) H
theorem call_maxDef {X : Cx} (hd : X.A.handled = none) (hu : X.A.units + 64 < cLine) : CallRK X (.builtin "max") [("default" : Str)] (rMaxDef X.K) := by
  intro pins s σ H xs zs us ws Q I rx rz h
  obtain ⟨a, ns, k, rfl, rfl, hS, q⟩ := h
  obtain ⟨u, rfl, ru⟩ := vals1 rx
  obtain ⟨uw, rfl, rw2⟩ := vals1 rz
  cases ru
  obtain ⟨t, rfl⟩ := rw2
  obtain ⟨its, rv, pl, hz⟩ := I.list hS
  obtain ⟨as, ra⟩ := ints_reads (h := s.heap) rv
  refine PySem.W.max_list_default (xs := ns.map PyData.int) (d := .int k t) hd pl.isList (by exact ra) (ints_alike ns) (by have := ints_depth ns; omega) (fun e h' tk hk => ?_) (fun y ys i v h' tk bs e hv hr hk => ?_)
  · cases ns with
    | nil => exact ⟨.int k, H, I.kept (t' := tk) hk, ⟨t, rfl⟩, q⟩
    | cons n l => cases e
  · cases ns with
    | nil => cases e
    | cons n l =>
      have e1 : y = .int n := (List.cons.inj e).1.symm
      have e2 : ys = l.map PyData.int := (List.cons.inj e).2.symm
      subst e1
      subst e2
      rw [PySem.W.maxD_ints] at hr
      cases hr
      exact ⟨.int _, H, I.kept (t' := tk) hk, ⟨_, rfl⟩, q⟩
end Gr

set_option Elab.async false
set_option maxRecDepth 100000
set_option maxHeartbeats 4000000
set_option linter.all false
/-! Ours: sum of a tuple of numbers; a walk within a comprehension. -/
namespace Gr
open PySem PySem.Spec PyProof.Rows L2 GxR
def rSumT (K : PySem.W.Frag) : List V → Hp → VK → Prop := fun vs H Q => ∃ (a : Addr) (ns : List Int), vs = [V.ref a] ∧ SqT K H a (ns.map V.int) ∧ Q (.int ns.sum) H
theorem cr_sumT {X : Cx} (hd : X.A.handled = none) : CallR X (.builtin "sum") (rSumT X.K) := by
  intro pins s σ H vs us Q I r h
  obtain ⟨a, ns, rfl, hT, q⟩ := h
  obtain ⟨its, rv, pl, _⟩ := I.tuple hT
  rw [Vals.ref1 r]
  have hI := rv.ints
  obtain ⟨zs, ez⟩ := hI.allInts.items
  have en : numsOf its.toArray.toList = ns := by rw [show its.toArray.toList = its from rfl]; exact hI.numsOf
  rw [ez] at pl en
  rw [nums_intItems] at en
  refine PySem.W.ktm_sumG hd pl fun h' tk t' hk => ?_
  rw [preSum_eq, List.take_of_length_le (by simp), en]
  exact ⟨.int _, H, I.kept hk, ⟨_, rfl⟩, q⟩
/-- a walk's turns, the body told by what it goes on to -/
theorem lp_it {J : It} {n : Nat} {G : Hp → Prop} {Y : Nat → Hp → V → Hp → Prop} (w : Walk J n G Y) {H0 : Hp} {Stop : Hp → Prop} {body : V → Hp → (Hp → Prop) → Prop} (Pv : Nat → Hp → Prop) (h0 : Pv 0 H0) (hG : ∀ i H, i ≤ n → Pv i H → G H)
    (hs : ∀ i x H H', i < n → Pv i H → Y i H x H' → body x H' (Pv (i + 1))) (hd : ∀ H, Pv n H → Stop H) :
    ∃ W : Nat → Nat → Hp → Prop, (∃ m, W 0 m H0) ∧ ∀ i m H, W i m H → (J.stop i H ∧ Stop H) ∨ (J.go i H ∧ ∃ N : Hp → Prop, (∀ H', N H' → ∃ m', m' < m ∧ W (i + 1) m' H') ∧ ∀ x H', J.yld i H x H' → body x H' N) := by
  refine ⟨fun i m H => m = n - i ∧ i ≤ n ∧ Pv i H, ⟨n, by simp, Nat.zero_le _, h0⟩, ?_⟩
  rintro i m H ⟨rfl, le, p⟩
  by_cases lt : i < n
  · exact .inr ⟨w.goes i H lt (hG i H le p), Pv (i + 1), fun H' p' => ⟨n - (i + 1), by omega, rfl, lt, p'⟩, fun x H' y => hs i x H H' lt p (w.yields i H x H' lt (hG i H le p) y)⟩
  · have e : i = n := by omega
    subst e
    exact .inl ⟨w.stops H (hG _ H le p), hd H p⟩
end Gr

set_option Elab.async false
set_option linter.all false
set_option maxRecDepth 100000
set_option maxHeartbeats 4000000
/-! Ours: a tuple times any small number, 0 and 1 among them. -/
namespace Gr
open PySem PySem.Spec PyProof.Rows L2
theorem tuple_mul1 (l : Addr) (items : Array Value) (n : Nat) (dd : Option Addr) (sl : Array (Option Value)) (u : Tok) :
    Meets (Builtin.«tuple.__mul__» ⟨[.ref l, .int 1 u], []⟩) (fun _ R s => s.heap.get? l = some { cls := .type "tuple", dict := dd, data := .seq items n, slots := sl } ∧
      R (.ok (.ret (Value.ref l))) s) :=
  .of_wp fun prog w A R s h => by
    obtain ⟨hp, g, d, tk, os⟩ := s
    obtain ⟨hl, h⟩ := h
    have f1 := AutoSeq1.idx_int
    wp_walk using wpAny_loadPart' hl
    exact ⟨_, rfl, h⟩
theorem tuple_mul0 (l : Addr) (items : Array Value) (n : Nat) (dd : Option Addr) (sl : Array (Option Value)) (u : Tok) (hi : items.isEmpty = false) :
    Meets (Builtin.«tuple.__mul__» ⟨[.ref l, .int 0 u], []⟩) (fun _ R s => s.heap.get? l = some { cls := .type "tuple", dict := dd, data := .seq items n, slots := sl } ∧
      R (.ok (.ret (Value.ref s.heap.objs.size))) { s with heap := s.heap.push { cls := Value.type "tuple", data := Data.seq #[] }, toks := s.toks }) :=
  .of_wp fun prog w A R s h => by
    obtain ⟨hp, g, d, tk, os⟩ := s
    obtain ⟨hl, h⟩ := h
    have f1 := AutoSeq1.idx_int
    wp_walk using wpAny_loadPart' hl
    exact ⟨_, rfl, h⟩
def rRepA (K : PySem.W.Frag) : R2 := fun x y H Q => ∃ l k xs, x = .ref l ∧ y = .int k ∧ SqT K H l xs ∧ xs ≠ [] ∧ 0 ≤ k ∧ k ≤ 1000 ∧ xs.length ≤ 1000 ∧ (k = 1 → Q (.ref l) H) ∧ (k ≠ 1 → ∀ p, H p = none → Q (.ref p) (upd H p (.tup (List.replicate k.toNat xs).flatten)))
section
variable {X : Cx}
theorem op_repA : OpR X (binaryOp .Mult) (rRepA X.K) := by
  intro pins s σ H x y v u Q I rx ry h
  obtain ⟨l, k, xs, rfl, rfl, hT, hne, h1, h2, hz, q1, q2⟩ := h
  by_cases h2k : 2 ≤ k
  · exact op_repT pins s σ H _ _ v u Q I rx ry ⟨l, k, xs, rfl, rfl, hT, hne, h2k, h2, hz, q2 (by omega)⟩
  cases rx
  obtain ⟨t, rfl⟩ := ry
  obtain ⟨its, r, ⟨⟨cls, dd, data, sl⟩, ho, hc, n, hd⟩, hs⟩ := I.tuple hT
  simp only at hc hd
  subst hc hd
  have hle : its.length = xs.length := r.length.symm
  have hn : its ≠ [] := fun e => hne (by
    rw [e] at hle
    exact List.eq_nil_of_length_eq_zero hle.symm)
  have hi : its.toArray.isEmpty = false := by
    cases its with
    | nil => exact absurd rfl hn
    | cons a b => rfl
  by_cases k1 : k = 1
  · subst k1
    refine wpAny_binaryOp_repeat_ref (T := "tuple") (U := "int") (by decide) ⟨_, ho, rfl⟩ (fun s' => typeIs_int s' 1 t) noFill_tuple_mul F.fills_int_mul F.slot_int_rmul repeat_tuple F.slot_int_index.lookup
      (call_meets F.slot_int_rmul (typeIs_int s 1 t) F.entry_int_rmul (F.args_int_rmul_2 _ _) (int_rmul_tuple 1 t l its.toArray n dd sl)
        ⟨ho, rfl, ⟨_, ho, rfl⟩, call_meets F.slot_tuple_mul ⟨_, ho, rfl⟩ F.entry_tuple_mul (F.args_tuple_mul_2 _ _) (tuple_mul1 l its.toArray n dd sl t) ⟨ho, ?_⟩⟩)
    exact ⟨.ref l, H, I, rfl, q1 rfl⟩
  · have k0 : k = 0 := by omega
    subst k0
    refine wpAny_binaryOp_repeat_ref (T := "tuple") (U := "int") (by decide) ⟨_, ho, rfl⟩ (fun s' => typeIs_int s' 0 t) noFill_tuple_mul F.fills_int_mul F.slot_int_rmul repeat_tuple F.slot_int_index.lookup
      (call_meets F.slot_int_rmul (typeIs_int s 0 t) F.entry_int_rmul (F.args_int_rmul_2 _ _) (int_rmul_tuple 0 t l its.toArray n dd sl)
        ⟨ho, rfl, ⟨_, ho, rfl⟩, call_meets F.slot_tuple_mul ⟨_, ho, rfl⟩ F.entry_tuple_mul (F.args_tuple_mul_2 _ _) (tuple_mul0 l its.toArray n dd sl t hi) ⟨ho, ?_⟩⟩)
    refine ⟨.ref s.heap.objs.size, _, I.laid (t' := s.toks) (o := .tup []) (fun b ob q => Heap.get?_push_of_some _ q) (Nat.le_refl _) ?_, rfl, q2 (by decide) _ (I.hok.fresh (Nat.le_refl _))⟩
    exact ⟨Nat.zero_le _, _, .nil, IsTup.new _ _⟩
end
end Gr

set_option Elab.async false
set_option linter.all false
set_option maxRecDepth 100000
set_option maxHeartbeats 4000000
/-! Ours: a tuple == (). -/
namespace Gr
open PySem PySem.Spec PyProof.Rows L2
def rEqT0 (K : PySem.W.Frag) : R2 := fun x y H Q => ∃ a b xs, x = .ref a ∧ y = .ref b ∧ SqT K H a xs ∧ SqT K H b [] ∧ Q (.bl (decide (xs.length = 0))) H
section
variable {X : Cx}
theorem op_eqT0 (hu : X.A.units + 64 < cLine) : OpR X (compareOp .Eq) (rEqT0 X.K) := by
  intro pins s σ H x y v u Q I rx ry h
  obtain ⟨a, b, xs, rfl, rfl, ha, hb, q⟩ := h
  cases rx
  cases ry
  obtain ⟨its, r1, p1, _⟩ := I.tuple ha
  obtain ⟨its2, r2, p2, _⟩ := I.tuple hb
  cases r2
  refine SeqAt.eq_tupleAt (e := fun _ => true) p1 p2 (by omega) (fun j h1 h2 => absurd h2 (Nat.not_lt_zero _)) ⟨.bl _, H, I, rfl, ?_⟩
  have e : ((List.range (min its.toArray.size ([] : List Value).toArray.size)).all (fun _ => true) && its.toArray.size == ([] : List Value).toArray.size) = decide (xs.length = 0) := by
    rw [r1.length, List.size_toArray]
    cases its with
    | nil => rfl
    | cons a l =>
      show (_ && (((a :: l).length) == 0)) = _
      simp
  rw [e]
  exact q
end
end Gr

set_option Elab.async false
set_option maxRecDepth 100000
set_option maxHeartbeats 2000000
set_option linter.all false
/-! Ours: all(.. for a, b in e), e a tuple of pairs of data, over a quiet element that reads captured names of the def. -/
namespace Gr
open PySem PySem.Spec PyProof.Rows L2 GxR
theorem letGo_tupleiter {prog : Program} {w : World} {A : Around} {E : Value → Shared → Prop} {s : Shared} {elts : List Expr} {x1} {pos : Pos} {I l T : Addr} {i : Nat} {Q : Unit → Shared → Prop} (hit : s.heap.IsTupleIter I l i) (hQ : Q () s) :
    wpAny (model prog w) A (letOwnedTupleGo (.Tuple elts x1 pos) (.ref I) (.ref T)) Q E s := by
  obtain ⟨o, ho, hc, hd⟩ := hit
  unfold letOwnedTupleGo
  refine wpAny_bind (wpAny_load ho ?_)
  rw [hc, hd]
  show wpAny _ A (if (["enumerate", "zip", "dict_itemiterator", "dict_reverseitemiterator", "odict_iterator", "itertools.zip_longest", "itertools.pairwise"].contains "tuple_iterator" &&
      (#[.ref l, .int i 0] : Array Value)[0]? == some (rawInt T)) = true then _ else _) Q E s
  rw [if_neg (by
    intro h
    rw [show (["enumerate", "zip", "dict_itemiterator", "dict_reverseitemiterator", "odict_iterator", "itertools.zip_longest", "itertools.pairwise"].contains "tuple_iterator") = false from by decide, Bool.false_and] at h
    cases h)]
  exact wpAny_pure hQ
theorem walks_tt {prog : Program} {w : World} {A : Around} (hh : A.handled = none) (I ax : Addr) (hne : ax ≠ I) (items : Array Value) (Ts : Nat → Addr) (vals : Nat → Array Value)
    (hit : ∀ j, j < items.size → items[j]? = some (.ref (Ts j))) (hTI : ∀ j, j < items.size → Ts j ≠ I) :
    WalksU prog w A I (I :: ax :: (List.range items.size).map Ts) [I] items.size (fun j v => j < items.size ∧ v = vals j)
      (fun j h => h.IsTupleIter I ax j ∧ h.IsTuple ax items ∧ ∀ k, k < items.size → h.IsTuple (Ts k) (vals k))
      (fun j T h => (j < items.size ∧ T = Ts j) ∧ h.IsTupleIter I ax (j + 1) ∧ h.IsTuple ax items ∧ ∀ k, k < items.size → h.IsTuple (Ts k) (vals k)) where
  sub := fun b hb => by simp at hb; simp [hb]
  frame := fun _ _ _ st hk => ⟨st.1.at fun o e => hk I (by simp) o e, st.2.1.at fun o e => hk ax (by simp) o e,
    fun k hk' => (st.2.2 k hk').at fun o e => hk (Ts k) (List.mem_cons_of_mem _ (List.mem_cons_of_mem _ (List.mem_map.mpr ⟨k, List.mem_range.mpr hk', rfl⟩))) o e⟩
  item := fun i s Q E hi st hQ => by
    refine wpAny_pyNext_tuple_item st.1 st.2.1 (x := .ref (Ts i)) (hit i hi) fun h' hit' hs' => ?_
    have tup : ∀ k, k < items.size → h'.IsTuple (Ts k) (vals k) := fun k hk' => (st.2.2 k hk').extBut hs'.extBut (hTI k hk')
    exact hQ (Ts i) (vals i) h' s.toks ⟨hi, rfl⟩ (tup i hi) ⟨⟨hi, rfl⟩, hit', st.2.1.extBut hs'.extBut hne, tup⟩ fun b o hb e => hs'.extBut b o (fun h => hb (by simp [h])) e
  go := fun _ _ _ _ _ s Q _ hm hQ => letGo_tupleiter hm.2.1 (hQ s.heap hm.2 fun _ _ _ e => e)
  apart := fun j T _ hm hmem => by
    rcases List.mem_cons.mp hmem with e | e
    · exact hTI j hm.1.1 (hm.1.2 ▸ e)
    · cases e
  done := fun s Q E st hQ => wpAny_pyNext_tuple_end hh st.1 st.2.1 (by simp) fun h' he' => hQ h' s.toks fun b o hb e => he' b o (fun h => hb (by simp [h])) e
  self := fun _ _ _ _ st hQ => wpAny_pyIter_tupleiter st.1 hQ
/-- captured names and what they hold -/
inductive FrD (h : Heap) (cells : List (Str × Addr)) : List Str → List PyData → Prop
  | nil : FrD h cells [] []
  | cons {x : Str} {xs : List Str} {d : PyData} {ds : List PyData} {c : Addr} {u : Value} : cells.lookup x = some c → h.IsCell c (some u) → Vd h u d → szD d → FrD h cells xs ds → FrD h cells (x :: xs) (d :: ds)
inductive CapD (K : PySem.W.Frag) (H : Hp) (σ : L2.St) : List Nat → List PyData → Prop
  | nil : CapD K H σ [] []
  | cons {i : Nat} {is : List Nat} {v : V} {d : PyData} {ds : List PyData} : σ[i]? = some (some v) → Dq K H v d → CapD K H σ is ds → CapD K H σ (i :: is) (d :: ds)
def tw (q : PyData × PyData) : PyData := .tuple [q.1, q.2]
def EltTF (X : Cx) (k : Nat) (scope : Scope) (xa xb : Str) (xs : List Str) (elt : Expr) (dom : List PyData → PyData × PyData → Prop) (pb : List PyData → PyData × PyData → Bool) : Prop :=
  ∀ (en : Env) (m : Str → Option Value) (h0 : Heap) (va vb : Value) (q : PyData × PyData) (fd : List PyData), en.scope = scope → Qc X.K X.mg X.base en → m xa = some va → m xb = some vb → Vd h0 va q.1 → Vd h0 vb q.2 → FrD h0 en.cells xs fd → dom fd q → QE X.prog X.w X.base h0 k en m elt (.bool (pb fd q))
inductive CapN (X : Cx) (scope : Scope) : List Str → List Nat → Prop
  | nil : CapN X scope [] []
  | cons {x : Str} {xs : List Str} {i : Nat} {is : List Nat} : X.N[i]? = some x → X.env.kindOf x = some .cell → (x, NameKind.free) ∈ scope.names → CapN X scope xs is → CapN X scope (x :: xs) (i :: is)
structure GenTF (X : Cx) (scope : Scope) (xa xb : Str) (xs : List Str) (is : List Nat) : Prop where
  kind : scope.kind = .function
  co : scope.isCoroutine = false
  cell : ∀ y ∈ scope.names, y.2 ≠ .cell
  dot : scope.names.lookup (".0" : Str) = some NameKind.local
  la : scope.names.lookup xa = some .local
  lb : scope.names.lookup xb = some .local
  ab : xa ≠ xb
  free : ∀ y ∈ scope.names, y.2 = .free → ∃ c, X.env.cells.lookup y.1 = some c
  cap : CapN X scope xs is
section
variable {X : Cx} {pins : List (Addr × Obj)} {σ : L2.St} {H : Hp} {s : Shared}
theorem clo_lookup {cells : List (Str × Addr)} {names : List (Str × NameKind)} {x : Str} (hx : (x, NameKind.free) ∈ names) : (cloFrom cells names []).lookup x = some ((cells.lookup x).getD 0) := by
  obtain ⟨c', e'⟩ := mem_lookup (cloFrom_has (cells := cells) (acc := []) hx)
  rw [e']
  rcases cloFrom_mem (PySem.mem_of_lookup e') with h | h
  · cases h
  · rw [h.2]
theorem cap_fr {xs : List Str} {is : List Nat} {fd : List PyData} {scope : Scope} (I : Inv X pins σ H s) (h : CapN X scope xs is) (c : CapD X.K H σ is fd) :
    FrD s.heap (cloFrom X.env.cells scope.names []) xs fd := by
  induction h generalizing fd with
  | nil => cases c; exact .nil
  | cons n1 n2 n3 _ ih =>
    cases c with
    | cons e1 e2 e3 =>
      obtain ⟨m, _, hl⟩ := I.loc
      obtain ⟨u, ru, lk⟩ := hl _ _ _ n1 e1 (.inr (.inl n2))
      rcases lk with ⟨z, _⟩ | ⟨_, c, hc, hcell⟩
      · rw [n2] at z; cases z
      · obtain ⟨as, r, _⟩ := e2.reads I u ru
        refine .cons ?_ hcell ⟨as, r⟩ (Dq.sz I e2) (ih e3)
        rw [clo_lookup n3, hc]
        rfl
theorem FrD.but {h h' : Heap} {P : Addr} {ps : Array Value} (k : ∀ b o, b ≠ P → h.get? b = some o → h'.get? b = some o) (p0 : h.get? P = some { cls := .none, data := .fields ps }) {cells : List (Str × Addr)} {xs : List Str} {fd : List PyData} (f : FrD h cells xs fd) : FrD h' cells xs fd := by
  induction f with
  | nil => exact .nil
  | cons a b r z _ ih =>
    obtain ⟨o, e1, e2⟩ := b
    obtain ⟨as, r⟩ := r
    refine .cons a ⟨o, k _ _ (fun q => ?_) e1, e2⟩ ⟨as, reads_but k p0 rfl r⟩ z ih
    rw [q, p0] at e1
    cases e1
    cases e2
def pairB (f : PyData × PyData → Bool) : PyData → Bool
  | .tuple [a, b] => f (a, b)
  | _ => false
theorem pair_all {f : PyData × PyData → Bool} (l : List (PyData × PyData)) : (l.map tw).all (pairB f) = l.all f := by
  rw [List.all_map]
  rfl
theorem vd_two {h : Heap} {v : Value} {q : PyData × PyData} (r : Vd h v (tw q)) : ∃ T va vb, v = .ref T ∧ h.IsTuple T #[va, vb] ∧ Vd h va q.1 ∧ Vd h vb q.2 := by
  obtain ⟨t, its, rfl, ht, ha⟩ := vd_tup r
  obtain ⟨l⟩ := its
  cases ha with
  | cons a b => cases b with
    | cons b c => cases c; exact ⟨t, _, _, rfl, ht, a, b⟩
theorem genTF {c P : Addr} {elt iter : Expr} {xa xb : Str} {qa qb qt gpos : Pos} {kt : Nat} {scope : Scope} {xs : List Str} {is : List Nat} {dom : List PyData → PyData × PyData → Prop} {pb : List PyData → PyData × PyData → Bool} {te : TE} {k : Nat} {W : Value → Shared → Prop} {R : List (PyData × PyData) → List PyData → Hp → Prop}
    (hr : Room (k + 1) X.A) (TB : TabB X.base X.mg c P) (hcode : X.env.code = .ref c) (S : GenTF X scope xa xb xs is) (hi : PE X iter te) (hel : EltTF X k scope xa xb xs elt dom pb)
    (hs : ∀ v, genFold iter X.env v = pure v) (I : Inv X pins σ H s) (h : te σ H fun v H1 => ∃ pr fd, Dq X.K H1 v (.tuple (pr.map tw)) ∧ CapD X.K H1 σ is fd ∧ (∀ q ∈ pr, dom fd q) ∧ TabG H1 P ∧ R pr fd H1)
    (hQ : ∀ pr fd H1 g z, R pr fd H1 → ReadyD X pins σ H1 P (pr.map tw) (pairB (pb fd)) g z → W (.ref g) z) :
    wpAny (model X.prog X.w) X.A (eval (.GeneratorExp elt [⟨.Tuple [.Name xa qa, .Name xb qb] kt qt, iter, [], 0⟩] scope gpos) X.env) W X.xe s := by
  refine wpAny_GeneratorExp_walksQTD hr.hd S.co (closure_ok S.free) S.cell S.dot S.la S.lb S.ab S.kind hr.depth (thn (hi.run pins s σ H _ I h) ?_) hs
  rintro xv s1 ⟨v, H1, I1, r1, pr, fd, hd, hcap, hdom, ⟨ps, hP, ht⟩, q1⟩
  obtain ⟨asv, rv, _⟩ := hd.reads I1 xv r1
  obtain ⟨tt, its, rfl, hit, hva⟩ := vd_tup ⟨asv, rv⟩
  have hsz : its.size = pr.length := by rw [← List.length_map (f := tw), ← hva.len, Array.length_toList]
  have hfr := cap_fr I1 S.cap hcap
  have each : ∀ j, ∃ q : Addr × Value × Value, ∀ hj : j < pr.length, its[j]? = some (.ref q.1) ∧ s1.heap.IsTuple q.1 #[q.2.1, q.2.2] ∧ Vd s1.heap q.2.1 pr[j].1 ∧ Vd s1.heap q.2.2 pr[j].2 := by
    intro j
    by_cases hj : j < pr.length
    · obtain ⟨v', hv', rv'⟩ := hva.get (i := j) (d := tw pr[j]) (by rw [List.getElem?_map, List.getElem?_eq_getElem hj]; rfl)
      obtain ⟨T, va, vb, rfl, a1, a2, a3⟩ := vd_two rv'
      exact ⟨(T, va, vb), fun _ => ⟨by rw [← Array.getElem?_toList]; exact hv', a1, a2, a3⟩⟩
    · exact ⟨default, fun q => absurd q hj⟩
  obtain ⟨qf, hqf⟩ := Classical.axiomOfChoice each
  have tlt : tt < s1.heap.objs.size := let ⟨_, e, _⟩ := hit; Heap.lt_size e
  have qlt : ∀ j, j < its.size → (qf j).1 < s1.heap.objs.size := fun j hj => let ⟨_, ⟨_, e, _⟩, _⟩ := hqf j (by omega); Heap.lt_size e
  refine wpAny_pyIter_tuple hit ⟨I1.nolimit.push _, code_then I1 TB hcode hP ht fun cv h3 tk more up lt hp ht' lim => ?_⟩
  have p0 : s1.heap.get? P = some { cls := .none, data := .fields ps } := I1.hok P _ hP
  have pl : P < s1.heap.objs.size := Heap.lt_size p0
  have at1 : ∀ b, b ∈ [s1.heap.objs.size] → b = s1.heap.objs.size := fun b hb => List.mem_singleton.mp hb
  have cl : cStatics < s1.heap.objs.size := let ⟨_, n, _⟩ := I1.nolimit; n.lt
  have notP : ∀ {T its'}, s1.heap.IsTuple T its' → T ≠ P := fun {T its'} hT e => by
    obtain ⟨o, e1, e2, _⟩ := hT
    rw [e, p0] at e1
    cases e1
    cases e2
  have up0 : ∀ b u, b ≠ P → s1.heap.get? b = some u → h3.get? b = some u := fun b u n e => by
    exact up b u n (Heap.get?_push_of_some _ e)
  have tn : tt ≠ s1.heap.objs.size := Nat.ne_of_lt tlt
  refine ⟨s1.heap.objs.size, s1.heap.objs.size :: tt :: (List.range its.size).map (fun j => (qf j).1), [s1.heap.objs.size], its.size, _, _, _, fun _ => true, fun i y => ∃ d, (pr.map tw)[i]? = some d ∧ y = .bool (pairB (pb fd) d), rfl,
    fun A' hh => walks_tt hh _ _ tn its (fun j => (qf j).1) (fun j => #[(qf j).2.1, (qf j).2.2]) (fun j hj => (hqf j (by omega)).1) (fun j hj => Nat.ne_of_lt (qlt j hj)), fun i vals hv => ⟨_, _, hv.2⟩, ⟨⟨_, up _ _ (fun e => ?_) (Heap.get?_push_size _ rfl), rfl, rfl⟩, ?_, fun j hj => ?_⟩, fun b hb => ?_, lim, fun z => ?_, fun href hh => ?_, ?_⟩
  · rw [← e] at pl
    exact Nat.lt_irrefl _ pl
  · have nP := notP hit
    obtain ⟨o, e1, e2⟩ := hit
    exact ⟨o, up0 _ _ nP e1, e2⟩
  · have hT := (hqf j (by omega)).2.1
    have nP := notP hT
    obtain ⟨o, e1, e2⟩ := hT
    exact ⟨o, up0 _ _ nP e1, e2⟩
  · rcases List.mem_cons.mp hb with e | e
    · rw [e]; exact lt
    · rcases List.mem_cons.mp e with e | e
      · rw [e]
        exact Nat.lt_trans tlt lt
      · obtain ⟨j, hj, rfl⟩ := List.mem_map.mp e
        exact Nat.lt_trans (qlt j (List.mem_range.mp hj)) lt
  · rw [at1 _ z] at cl
    exact Nat.lt_irrefl _ cl
  · constructor
    · intro B E' i va vb z m _ _ _ _ _ _ _ _
      rw [List.forIn_nil]
      exact wpAny_pure ⟨rfl, keeps_refl _⟩
    · intro B E' i va vb z m hB hD hU hv _ hn hma hmb hk
      obtain ⟨hi1, hv⟩ := hv
      have hi2 : i < pr.length := by omega
      obtain ⟨_, _, rz1, rz2⟩ := hqf i hi2
      have ea : va = (qf i).2.1 := by
        have := congrArg (fun a : Array Value => a[0]?) hv
        exact Option.some.inj this
      have eb : vb = (qf i).2.2 := by
        have := congrArg (fun a : Array Value => a[1]?) hv
        exact Option.some.inj this
      have keepA : ∀ b o, b ≠ P → s1.heap.get? b = some o → z.heap.get? b = some o := fun b o nb e => by
        have lb : b < s1.heap.objs.size := Heap.lt_size e
        refine hk b (List.mem_range.mpr (Nat.lt_trans lb lt)) (fun q => ?_) _ (hh _ _ (up0 b o nb e))
        rw [at1 b q] at lb
        exact Nat.lt_irrefl _ lb
      have room : Room k B := ⟨hB, by have := hr.dp; omega, by have := hr.un; omega⟩
      have rq1 : Vd z.heap va pr[i].1 := by
        rw [ea]
        obtain ⟨as2, r2⟩ := rz1
        exact ⟨as2, reads_but keepA p0 rfl r2⟩
      have rq2 : Vd z.heap vb pr[i].2 := by
        rw [eb]
        obtain ⟨as2, r2⟩ := rz2
        exact ⟨as2, reads_but keepA p0 rfl r2⟩
      refine thn (hel _ m z.heap va vb pr[i] fd rfl ⟨I1.mod, S.kind, ?_, rfl⟩ hma hmb rq1 rq2 (hfr.but keepA p0) (hdom _ (List.getElem_mem hi2)) B E' z ⟨room, fun b o e => ?_, fun _ _ e => e, hn⟩) fun y z' r => ⟨⟨tw pr[i], by rw [List.getElem?_map, List.getElem?_eq_getElem hi2]; rfl, vd_bool r.1⟩, r.2⟩
      · exact I1.ok.glob
      · obtain ⟨e1, e2⟩ := I1.bs b o e
        exact keepA b o (fun q => by rw [q, hP] at e2; cases e2) e1
  · intro g h5 tk5 gs gb ag sz5 k5 W5 hat
    simp only [GxR.passing_true, List.length_range] at W5
    have hsz' : its.size = (pr.map tw).length := by rw [hsz, List.length_map]
    rw [hsz'] at W5 hat
    refine hQ pr fd H1 g _ q1 ⟨_, _, _, _, _, W5.in4_1, hat, ?_, fun s' mv => ?_⟩
    · rintro j y z Q' E' ⟨i, hij, d, hd2, rfl⟩ q
      obtain ⟨hj, ej⟩ := List.getElem?_eq_some_iff.mp hij
      rw [List.getElem_range] at ej
      cases ej
      have q' : Q' (trD (pairB (pb fd)) (pr.map tw) j) z := q
      unfold trD at q'
      rw [hd2] at q'
      exact wpAny_truthy_bool q'
    · have nw : ∀ b u, s1.heap.get? b = some u → b ∉ h3.objs.size :: [s1.heap.objs.size] := fun b u e hb => by
        have l := Heap.lt_size e
        have l2 : s1.heap.objs.size < h3.objs.size := lt
        rcases List.mem_cons.mp hb with z | z
        · rw [z] at l
          exact Nat.lt_asymm l l2
        · rw [at1 b z] at l
          exact Nat.lt_irrefl _ l
      have J := inv_tab (more := more) (h' := s'.heap) (g' := s'.gens) (d' := s'.drawn) (t' := s'.toks) I1 hP (fun b u n e => mv.heap b u (nw b u e) (k5 b u (up0 b u n e))) (mv.heap P _ (nw P _ p0) (k5 P _ hp)) (AllBare.movedS (I1.bare.push gb) mv)
      have es : ({ s1 with heap := s'.heap, gens := s'.gens, drawn := s'.drawn, toks := s'.toks } : Shared) = s' := by
        obtain ⟨_, _, _, _, _⟩ := s'
        have := mv.os
        dsimp only at this
        rw [this]
      rw [es] at J
      exact ⟨upd H1 P (.tbl (ps ++ more)), ⟨⟨_, upd_same, ht'⟩, fun b hb => upd_ne hb⟩, J⟩
def tAllTF (K : PySem.W.Frag) (P : Addr) (is : List Nat) (dom : List PyData → PyData × PyData → Prop) (pb : List PyData → PyData × PyData → Bool) (te : TE) : TE := fun σ H Q => te σ H fun v H1 => ∃ (pr : List (PyData × PyData)) (fd : List PyData), Dq K H1 v (.tuple (pr.map tw)) ∧ CapD K H1 σ is fd ∧ (∀ q ∈ pr, dom fd q) ∧ TabG H1 P ∧ ∀ H2, Tabbed P H1 H2 → Q (.bl (pr.all (pb fd))) H2
/-- all(elt for a, b in e), e a tuple of pairs -/
theorem pe_allTF {c P : Addr} {elt iter : Expr} {xa xb : Str} {qa qb qt p pos gpos : Pos} {kt : Nat} {scope : Scope} {xs : List Str} {is : List Nat} {dom : List PyData → PyData × PyData → Prop} {pb : List PyData → PyData × PyData → Bool} {te : TE} {k : Nat}
    (hr : Room (k + 1) X.A) (hg : Gl X "all") (hm : X.mg "all" = none) (TB : TabB X.base X.mg c P) (hcode : X.env.code = .ref c) (S : GenTF X scope xa xb xs is) (hi : PE X iter te) (hel : EltTF X k scope xa xb xs elt dom pb)
    (hs : ∀ v, genFold iter X.env v = pure v)
    (he : starEach [.GeneratorExp elt [⟨.Tuple [.Name xa qa, .Name xb qb] kt qt, iter, [], 0⟩] scope gpos] X.env = (false, eval (.GeneratorExp elt [⟨.Tuple [.Name xa qa, .Name xb qb] kt qt, iter, [], 0⟩] scope gpos) X.env) :: starEach [] X.env := by rfl) :
    PE X (.Call (.Name "all" p) [.GeneratorExp elt [⟨.Tuple [.Name xa qa, .Name xb qb] kt qt, iter, [], 0⟩] scope gpos] [] pos) (tAllTF X.K P is dom pb te) := by
  refine ⟨fun pins s σ H Q I h => wpAny_Call_Name_kw (ld_blt I hg hm boot_all (PyProof.Rows.callWith_builtin1 ?_ he (by rfl)))⟩
  rw [he]
  show wpAny _ _ (spliced ((false, eval (.GeneratorExp elt [⟨.Tuple [.Name xa qa, .Name xb qb] kt qt, iter, [], 0⟩] scope gpos) X.env) :: backTo pos (starEach [] X.env))) _ _ s
  refine Calls.spliced_cons (genTF (R := fun pr fd H1 => ∀ H2, Tabbed P H1 H2 → Q (.bl (pr.all (pb fd))) H2) hr TB hcode S hi hel hs I h ?_)
  rintro pr fd H1 g z hR ⟨fp, wr, G, F, St, W, hst, htr, hI⟩
  refine Calls.spliced_nil (call_all_walkS (W.self 0 _ _ _ hst ⟨g, fp, wr, G, _, F, St, _, rfl, W, hst, htr, fun s' mv => ?_⟩))
  obtain ⟨H2, hT, J⟩ := hI s' mv
  rw [trD_all (pairB (pb fd)) (pr.map tw), pair_all]
  exact ⟨.bl _, H2, J, rfl, hR H2 hT⟩
end
end Gr

set_option Elab.async false
set_option maxRecDepth 100000
set_option maxHeartbeats 2000000
set_option linter.all false
/-! Ours: quiet code, more: captured names, a - b, -a, e[i] of any sign. -/
namespace Gr
open PySem PySem.Spec PyProof.Rows L2 GxR
section
variable {P : Program} {w : World} {K : PySem.W.Frag} {mg : Str → Option Value} {base h0 : Heap} {k : Nat} {env : Env} {m : Str → Option Value}
theorem qe_free {x : Str} {p : Pos} {c : Addr} {u : Value} {d : PyData} (C : Qc K mg base env) (hl : env.scope.names.lookup x = some .free) (hc : env.cells.lookup x = some c) (hv : h0.IsCell c (some u)) (hr : Vd h0 u d) (hn : (x == ("__classdict__" : Str)) = false := by decide) (hd : (x == ("__debug__" : Str)) = false := by decide) :
    QE P w base h0 k env m (.Name x p) d := fun B E z q => by
  obtain ⟨o, e1, e2⟩ := hv
  exact wpAny_Name (wpAny_loadName_free C.kind hl hc ⟨o, q.up _ _ e1, e2⟩ ⟨hr.up q.up, keeps_refl _⟩ hn) hd
theorem qe_sub {a b : Expr} {i j : Int} {pos : Pos} (ha : QE P w base h0 k env m a (.int i)) (hb : QE P w base h0 k env m b (.int j)) : QE P w base h0 k env m (.BinOp a .Sub b pos) (.int (i - j)) := by
  intro B E z q
  refine wpAny_BinOp (thn (ha B E z q) fun u z1 ⟨r1, k1⟩ => thn (hb B E z1 (q.next k1)) fun v z2 ⟨r2, k2⟩ => ?_)
  obtain ⟨t, rfl⟩ := vd_int r1
  obtain ⟨t', rfl⟩ := vd_int r2
  exact sub_int ⟨⟨_, .int _ _⟩, kt k1 (kt k2 (keeps_tok _ _))⟩
theorem qe_neg {a : Expr} {i : Int} {pos : Pos} (ha : QE P w base h0 k env m a (.int i)) : QE P w base h0 k env m (.UnaryOp .USub a pos) (.int (-i)) := by
  intro B E z q
  refine UnaryOp_ (thn (ha B E z q) fun u z1 ⟨r1, k1⟩ => ?_)
  obtain ⟨t, rfl⟩ := vd_int r1
  exact neg_int ⟨⟨_, .int _ _⟩, kt k1 (keeps_tok _ _)⟩
theorem qe_ixA {e sl : Expr} {i : Int} {pos : Pos} {ds : List PyData} {d : PyData} (he : QE P w base h0 k env m e (.tuple ds)) (hi : QE P w base h0 k env m sl (.int i)) (ha : atI ds i = some d) (hl : ds.length ≤ sizeLine) (hs : ∀ o v, subscripted sl false o v = operate [o, v] (getItem o v) := by intro _ _; with_unfolding_all rfl) :
    QE P w base h0 k env m (.Subscript e sl pos) d := by
  intro B E z q
  refine Subscript_ (thn (he B E z q) fun u z1 ⟨r1, k1⟩ => thn (hi B E z1 (q.next k1)) fun x z2 ⟨r2, k2⟩ => ?_)
  obtain ⟨t, its, rfl, ht, hall⟩ := vd_tup (r1.up (kk k2))
  obtain ⟨t', rfl⟩ := vd_int r2
  have hn := line63
  have hz : its.size = ds.length := by
    have := hall.len
    rw [← this, Array.length_toList]
  obtain ⟨j, e1, e2, e3, e4, e5⟩ := atI_get ha
  obtain ⟨v, hv, rv⟩ := hall.get e2
  have hv' : its[j]? = some v := by rw [← Array.getElem?_toList]; exact hv
  refine subscriptTail_builtinR (x := v) ht.typeIs slot_tuple_getitem.lookup (getItem_tuple (j := j) (Q := fun r s' => r = v ∧ (Vd s'.heap r d ∧ Keeps z s')) ht (by omega) (by omega) (by rw [hz]; exact e1) hv' ⟨rfl, rv, kt k1 k2⟩) (hs _ _)
theorem qe_lt {a b : Expr} {i j : Int} {pos : Pos} (ha : QE P w base h0 k env m a (.int i)) (hb : QE P w base h0 k env m b (.int j)) (hm : behindInMarks .Lt b = false := by with_unfolding_all rfl) : QE P w base h0 k env m (.Compare a [.Lt] [b] pos) (.bool (decide (i < j))) :=
  qe_cmp (c := fun i j => decide (i < j)) ha hb (fun q => lt_int q) hm
theorem qe_ge {a b : Expr} {i j : Int} {pos : Pos} (ha : QE P w base h0 k env m a (.int i)) (hb : QE P w base h0 k env m b (.int j)) (hm : behindInMarks .GtE b = false := by with_unfolding_all rfl) : QE P w base h0 k env m (.Compare a [.GtE] [b] pos) (.bool (decide (j ≤ i))) :=
  qe_cmp (c := fun i j => decide (j ≤ i)) ha hb (fun q => ge_int q) hm
end
end Gr

set_option Elab.async false
set_option maxRecDepth 100000
set_option maxHeartbeats 4000000
set_option linter.all false
/-! Ours: t[::-1] of a tuple. -/
namespace Gr
open PySem PySem.Spec PyProof.Rows L2 GxR HT
theorem all_at {α : Type} : ∀ l : List α, (List.range l.length).filterMap (fun k => l[k]?) = l
  | [] => rfl
  | a :: l => by
    rw [List.length_cons, List.range_succ_eq_map, List.filterMap_cons]
    show a :: _ = _
    rw [List.filterMap_map]
    exact congrArg (a :: ·) (all_at l)
theorem fm_congr {α β : Type} {f g : α → Option β} : ∀ l : List α, (∀ k ∈ l, f k = g k) → l.filterMap f = l.filterMap g
  | [], _ => rfl
  | a :: l, h => by
    rw [List.filterMap_cons, List.filterMap_cons, h a List.mem_cons_self, fm_congr l fun k hk => h k (List.mem_cons_of_mem _ hk)]
theorem pick_rev (xs : Array Value) : ((List.range xs.size).filterMap fun (k : Nat) => xs[(((xs.size : Int) - 1) + (k : Int) * (-1)).toNat]?).toArray = xs.toList.reverse.toArray := by
  have h := all_at xs.toList.reverse
  rw [List.length_reverse, Array.length_toList] at h
  rw [← h]
  congr 1
  refine fm_congr _ fun k hk => ?_
  have hk := List.mem_range.mp hk
  rw [List.getElem?_reverse (by rw [Array.length_toList]; exact hk), Array.length_toList, Array.getElem?_toList]
  congr 1
  omega
theorem sliceApplied_rev {prog : Program} {w : World} {A : Around} {E : Value → Shared → Prop} {s : Shared} {sl : Addr} {n : Nat} {u : Tok} {Q : Int × Int × Nat → Shared → Prop} (hs : s.heap.IsSliceOf sl .none .none (.int (-1) u))
    (h : Q ((n : Int) - 1, -1, n) s) : wpAny (model prog w) A (Builtin.Slice.sliceApplied (.ref sl) (pure (n : Int))) Q E s := by
  obtain ⟨os, hos, hcs, hds⟩ := id hs
  unfold Builtin.Slice.sliceApplied Builtin.Slice.sliceFields
  refine wpAny_bind (wpAny_bind (wpAny_field hos hds (x := .none) rfl (wpAny_bind (wpAny_field hos hds (x := .none) rfl (wpAny_bind (wpAny_field hos hds (x := .int (-1) u) rfl (wpAny_pure ?_)))))))
  refine wpAny_bind (slicePart_ (o := some (-1)) (by first | exact ⟨u, rfl⟩ | exact .int _ _ | rfl) ?_)
  show wpAny _ _ (if ((-1 : Int) == 0) = true then _ else _) _ _ s
  rw [if_neg (by decide)]
  refine wpAny_bind (slicePart_none (wpAny_bind (slicePart_none (wpAny_bind (wpAny_pure ?_)))))
  have e : Builtin.Slice.slicePlaces ((n : Int) - 1) (-1) (-1) = n := by
    unfold Builtin.Slice.slicePlaces
    rw [if_neg (by decide)]
    by_cases z : n = 0
    · subst z
      rfl
    · rw [if_pos (by omega), show -(-1 : Int) = 1 from rfl, Int.ediv_one]
      omega
  show wpAny _ _ (pure ((n : Int) - 1, (-1 : Int), Builtin.Slice.slicePlaces ((n : Int) - 1) (-1) (-1))) _ _ s
  rw [e]
  exact wpAny_pure h
theorem getItem_tuple_rev {prog : Program} {w : World} {A : Around} {E : Value → Shared → Prop} {s : Shared} {t sl : Addr} {items : Array Value} {u : Tok} {Q : Value → Shared → Prop} (ht : IsTup s.heap t items) (hs : s.heap.IsSliceOf sl .none .none (.int (-1) u))
    (h : Q (.ref s.heap.objs.size) { s with heap := s.heap.push { cls := .type "tuple", data := .seq items.toList.reverse.toArray } }) (hsz : items.size ≤ sizeLine) : wpAny (model prog w) A (getItem (.ref t) (.ref sl)) Q E s := by
  obtain ⟨os, hos, hcs, hds⟩ := id hs
  have hTs : s.TypeIs (.ref sl) "slice" := ⟨os, hos, hcs⟩
  unfold getItem
  try with_reducible refine wpAny_holding ?_
  first | refine wpAny_bind (wpAny_pure ?_) | skip
  refine wpAny_bind (wpAny_sequenceKey ht.typeIs (by decide) ?_)
  refine wpAny_bind (wpAny_callSpecial?_slot (name := Str.ofString "__getitem__") ht.typeIs PyProof.Rows.slot_tuple_getitem
    (wpAny_call_entry PyProof.Rows.slot_tuple_getitem ht.typeIs entry_tuple_getitem ?_ (args_tuple_getitem _ _)))
  show wpAny _ _ (Builtin.Tuple.tupleItemsOf (.ref t) >>= _) _ _ s
  refine wpAny_bind (tupleItemsOf_ ht ?_)
  refine wpAny_bind (wpAny_typeOf hTs ?_)
  rw [if_pos (by decide)]
  refine wpAny_bind (sliceApplied_rev hs ?_)
  have hno : (((items.size : Int) - 1) == 0 && (-1 : Int) == 1 && items.size == items.size) = false := by
    rw [show ((-1 : Int) == 1) = false by decide, Bool.and_false, Bool.false_and]
  show wpAny _ _ (if (((items.size : Int) - 1) == 0 && (-1 : Int) == 1 && items.size == items.size) = true then _ else _) _ _ s
  rw [if_neg (by rw [hno]; decide)]
  rw [pick_rev]
  have htake : sizeOk (.seq items.toList.reverse.toArray) := by
    show items.toList.reverse.toArray.size ≤ sizeLine
    rw [List.size_toArray, List.length_reverse, Array.length_toList]
    exact hsz
  first
    | exact wpAny_bind (m := Builtin.Tuple.tupleExact _) (wpAny_newObj_type (wpAny_pure ⟨_, rfl, wpAny_pure h⟩) htake)
    | exact wpAny_bind (m := Builtin.Tuple.tupleExact _) (wpAny_newObj_type (wpAny_bind (wpAny_pure (wpAny_pure ⟨_, rfl, wpAny_pure h⟩))) htake)
    | exact wpAny_bind (wpAny_bind (m := Builtin.Tuple.tupleExact _) (wpAny_newObj_type (wpAny_pure (wpAny_pure ⟨_, rfl, wpAny_pure h⟩)) htake))
    | exact wpAny_bind (wpAny_bind (m := Builtin.Tuple.tupleExact _) (wpAny_newObj_type (wpAny_pure ⟨_, rfl, wpAny_pure h⟩) htake))
def tRevT (K : PySem.W.Frag) (te : TE) : TE := fun σ H Q => te σ H fun x H1 => ∃ a xs, x = .ref a ∧ SqT K H1 a xs ∧ ∀ p, H1 p = none → Q (.ref p) (upd H1 p (.tup xs.reverse))
section
variable {X : Cx} {te : TE}
/-- t[::-1] -/
theorem pe_revT {e : Expr} {k : Nat} {p1 p2 p3 pos : Pos} (he : PE X e te) : PE X (.Subscript e (.Slice none none (some (.UnaryOp .USub (.Constant (.int 1) k p1) p2)) p3) pos) (tRevT X.K te) := by
  refine ⟨fun pins s σ H Q I h => ?_⟩
  refine Subscript_ (thn (he.run pins s σ H _ I h) fun v s1 ⟨x, H1, I1, r1, q1⟩ => ?_)
  obtain ⟨a, xs, ex, hx, q⟩ := q1
  subst ex
  cases r1
  have hst : PO X (some (.UnaryOp .USub (.Constant (.int 1) k p1) p2)) (tPart (tUn (rU fun i => .int (-i)) (tC (.int 1)))) := po_some (pe_un un_neg pe_int)
  refine wpAny_Slice (thn (po_none.run pins s1 σ H1 (fun o H2 => o = none ∧ H2 = H1) I1 ⟨rfl, rfl⟩) fun vl s2 ⟨l, H2, I2, pl, el, e2⟩ => ?_)
  subst el e2
  refine thn (po_none.run pins s2 σ H2 (fun o H3 => o = none ∧ H3 = H2) I2 ⟨rfl, rfl⟩) fun vu s3 ⟨u, H3, I3, pu, eu, e3⟩ => ?_
  subst eu e3
  refine thn (hst.run pins s3 σ H3 (fun o H4 => o = some (-1) ∧ H4 = H3) I3 ⟨1, rfl, -1, rfl, rfl, rfl⟩) fun vs s4 ⟨o, H4, I4, ps, eo, e4⟩ => ?_
  subst eo e4
  have I5 : Inv X pins σ H4 { s4 with heap := s4.heap.push { cls := .type "slice", data := .fields #[vl, vu, vs] } } := I4.kept (t' := s4.toks) fun b ob q => Heap.get?_push_of_some _ q
  obtain ⟨its, r, ht, hz⟩ := I5.tuple hx
  have hlen := r.length
  cases pl
  cases pu
  cases ps with
  | int i t =>
  show wpAny (model X.prog X.w) X.A (subscriptTail e (.Slice none none (some (.UnaryOp .USub (.Constant (.int 1) k p1) p2)) p3) (.ref a) (.ref s4.heap.objs.size)) (EP X pins σ Q) X.xe { s4 with heap := s4.heap.push { cls := .type "slice", data := .fields #[.none, .none, .int (-1) t] } }
  refine tail_any (ops := [.ref a, .ref s4.heap.objs.size]) ht.typeIs (PyProof.Rows.slot_tuple_getitem.lookup) ?_ (by with_unfolding_all rfl)
  refine getItem_tuple_rev ht (Heap.IsSliceOf.new _ .none .none (.int (-1) t)) ?_ (by rw [List.size_toArray]; omega)
  refine ⟨.ref _, _, I5.laid (t' := s4.toks) (o := .tup xs.reverse) (fun b ob q => Heap.get?_push_of_some _ q) (Nat.le_refl _) ?_, rfl, q _ (I5.hok.fresh (Nat.le_refl _))⟩
  exact ⟨by rw [List.length_reverse]; exact hlen ▸ hz, _, r.reverse, IsTup.new _ _⟩
end
end Gr

set_option Elab.async false
set_option maxRecDepth 100000
set_option maxHeartbeats 4000000
set_option linter.all false
/-! Ours: sorted(a tuple of numbers). -/
namespace Gr
open PySem PySem.Spec PyProof.Rows L2 GxR SrtO
section
variable {prog : Program} {w : World} {A : Around} {E : Value → Shared → Prop} {s : Shared}
def colH (h : Heap) (vs : List Value) : Heap := (h.push (seqObj "list" #[] 0)).update h.objs.size (Obj.mapSeq (· ++ vs.toArray))
theorem colH_size (h : Heap) (vs : List Value) : (colH h vs).objs.size = h.objs.size + 1 := by unfold colH; rw [Heap.size_update, size_push']
theorem colH_old {h : Heap} {vs : List Value} {b : Addr} {o : Obj} (q : h.get? b = some o) : (colH h vs).get? b = some o := by
  unfold colH
  rw [Heap.get?_update_ne _ _ _ _ (Nat.ne_of_lt (Heap.lt_size q))]
  exact Heap.get?_push_of_some _ q
/-- the elements of a tuple, gathered -/
theorem gather_tup {t : Addr} {vs : List Value} {Q : List Value → Shared → Prop} (ht : IsTup s.heap t vs.toArray) (hz : vs.length ≤ sizeLine) (k : Q vs { s with heap := colH s.heap vs }) : wpAny (model prog w) A (collect (.ref t)) Q E s := by
  obtain ⟨o, go, co, m, dt⟩ := id ht
  unfold collect
  refine wpAny_bind (wpAny_runValue (codeAny_builtin entry_proto_collect' (?_ : wpAny _ _ _ _ _ _)))
  show wpAny _ _ (do let l ← newList []; again (.builtin "list.__iadd__" ⟨[l, .ref t], []⟩)) _ _ s
  refine wpAny_bind (wpAny_newList (wpAny_pure (And.intro (Code.quiet_builtin _ (by decide +kernel)) (codeAny_builtin entry_list_iadd' ?_))))
  show wpAny _ _ (Builtin.List.listExtendWith (.ref (s.heap.objs.size)) (.ref t) (.ref (s.heap.objs.size))) _ _ (Shared.mk _ _ _ _ _)
  unfold Builtin.List.listExtendWith
  have g2 : (s.heap.push (seqObj "list" #[] 0)).get? t = some o := Heap.get?_push_of_some (seqObj "list" #[] 0) go
  refine wpAny_bind (wpAny_typeOf (T := "tuple") ⟨o, g2, co⟩ ?_)
  rw [if_pos (by rw [show (Value.type "tuple" == Value.type "tuple") = true from rfl, Bool.or_true])]
  refine wpAny_bind (listItems_at g2 dt (wpAny_bind (listItems_at (xs := #[]) (n := 0) (Heap.get?_push_size _ rfl) rfl ?_)))
  rw [if_neg (by simp)]
  have fits : (#[] ++ vs.toArray : Array Value).size ≤ sizeLine + 1 := by simp only [Array.size_append, List.size_toArray, List.length_nil]; omega
  refine wpAny_bind (listUpdate_at (xs := #[]) (n := 0) (Heap.get?_push_size _ rfl) rfl (wpAny_pure ?_) (Nat.zero_le _) fits)
  show wpAny (model prog w) A (do let r ← load s.heap.objs.size
                                  match r.data with
                                  | .seq xs _ => pure xs.toList
                                  | _ => unsupported "internal:collect") Q E { s with heap := colH s.heap vs }
  refine wpAny_bind (wpAny_load (get?_update_seq (Heap.get?_push_size _ rfl) _) (?_ : wpAny _ _ (pure ((#[] : Array Value) ++ vs.toArray).toList) _ _ _))
  rw [show ((#[] : Array Value) ++ vs.toArray).toList = vs from by simp]
  exact wpAny_pure k
theorem sorted_tup {t : Addr} {vs : List Value} {ns : List Int} {Q : Value → Shared → Prop} (ht : IsTup s.heap t vs.toArray) (hI : IntsAre vs ns) (hz : vs.length ≤ sizeLine)
    (k : ∀ out : List Value, Srtd ltIv out → Stb ltIv out vs → Q (.ref (s.heap.objs.size + 1)) { s with heap := sortedAll s.heap vs out.toArray }) : wpAny (model prog w) A (call (.builtin "sorted") [.ref t]) Q E s := by
  refine call_function_entry_kw kind_sorted plain_sorted entry_sorted (kw := []) (args_sorted1 _) (?_ : wpAny _ _ _ _ _ _)
  unfold Builtin.«sorted»
  refine wpAny_bind (m := checkCount "sorted" 1 1 _) (wpAny_pure (wpAny_bind (gather_tup ht hz (wpAny_bind (wpAny_newList (?_ : wpAny _ _ _ _ _ _) hz)))))
  have hat : ((colH s.heap vs).push (seqObj "list" vs.toArray 0)).get? (s.heap.objs.size + 1) = some (seqObj "list" vs.toArray 0) := by
    rw [← colH_size s.heap vs]
    exact Heap.get?_push_size _ rfl
  have old : ∀ b o, s.heap.get? b = some o → b ≠ s.heap.objs.size + 1 ∧ ((colH s.heap vs).push (seqObj "list" vs.toArray 0)).get? b = some o := fun b o q => ⟨Nat.ne_of_lt (Nat.lt_succ_of_lt (Heap.lt_size q)), Heap.get?_push_of_some _ (colH_old q)⟩
  show wpAny _ _ _ _ _ { s with heap := (colH s.heap vs).push (seqObj "list" vs.toArray 0) }
  rw [show ({ s with heap := colH s.heap vs } : Shared).heap.objs.size = s.heap.objs.size + 1 from colH_size s.heap vs]
  refine wpAny_bind (wpAny_holding (wpAny_call_entry slot_list_sort ⟨_, hat, rfl⟩ entry_list_sort (list_sort_ord swo_int hat hz (fun h2 => ints_sortable hI h2) (fun out h1 h2 => ⟨_, rfl, wpAny_pure ⟨_, rfl, k out h1 h2⟩⟩)) (args_list_sort _)))
end
/-- sorted(a tuple of ints) -/
def rSortedT (K : PySem.W.Frag) : List V → Hp → VK → Prop := fun vs H Q => ∃ (a : Addr) (ns : List Int), vs = [.ref a] ∧ SqT K H a (ns.map V.int) ∧
  ∀ (ms : List Int) (p : Addr), ms.Perm ns → ms.Pairwise (· ≤ ·) → H p = none → Q (.ref p) (upd H p (.lst (ms.map V.int)))
theorem cr_sortedTup {X : Cx} : CallR X (.builtin "sorted") (rSortedT X.K) := by
  intro pins s σ H vs us Q I r h
  obtain ⟨a, ns, rfl, hs, q⟩ := h
  obtain ⟨its, rv, tp, hz⟩ := I.tuple hs
  rw [Vals.ref1 r]
  have hi := rv.ints
  refine sorted_tup tp hi (rv.length ▸ hz) fun out h1 h2 => ?_
  obtain ⟨k1, k2, k3⟩ := ints_out hi h1 h2
  obtain ⟨ep, hat⟩ := sortedAll_at s.heap its out.toArray
  have hl : ((out.map iv).map V.int).length ≤ sizeLine := by
    rw [List.length_map] at hz ⊢
    exact Nat.le_trans (Nat.le_of_eq k2.length_eq) hz
  exact ⟨.ref _, upd H (s.heap.objs.size + 1) (.lst ((out.map iv).map V.int)), I.laid (t' := s.toks) (fun _ _ => sortedAll_old) (Nat.le_succ _) ⟨hl, out, ep, vals_of_ints k1, hat⟩, rfl, q _ _ k2 k3 (I.hok.fresh (Nat.le_succ _))⟩
end Gr

set_option Elab.async false
set_option maxRecDepth 100000
set_option maxHeartbeats 4000000
set_option linter.all false
/-! Ours: t.index(k) of a tuple of numbers. -/
namespace Gr
open PySem PySem.Spec PyProof.Rows L2 GxR
def rIdxI (K : PySem.W.Frag) : V → List V → Hp → VK → Prop := fun x xs H Q => ∃ (p : Addr) (ns : List Int) (k : Int), x = .ref p ∧ xs = [.int k] ∧ SqT K H p (ns.map V.int) ∧ k ∈ ns ∧ Q (.int (ns.idxOf k : Nat)) H
theorem mt_tup_ints {X : Cx} : MtR X "tuple.index" (rIdxI X.K) := by
  intro pins s σ H x xs v us Q I rx rs h
  obtain ⟨p, ns, k, rfl, rfl, hq, hk, q⟩ := h
  cases rx
  obtain ⟨u, rfl, t, rfl⟩ := vals1 rs
  obtain ⟨its, r, pl, hz⟩ := I.tuple hq
  exact PySem.SeqAt.tuple_index_ints pl r.ints hk ⟨.int _, H, I.tok _, ⟨_, rfl⟩, q⟩
theorem mt_tup_intsB {X : Cx} {s : Shared} {H : Hp} {sc : Scope} {en : Env} {fp : List Addr} : MtR (X.blk s H sc en fp) "tuple.index" (rIdxI X.K) := mt_tup_ints
end Gr

set_option Elab.async false
set_option maxRecDepth 100000
set_option maxHeartbeats 4000000
set_option linter.all false
/-! Ours: a new tuple of which the whole object is known (frozen); its index(k); thawed when it is read once more. -/
namespace Gr
open PySem PySem.Spec PyProof.Rows L2 GxR
section
variable {X : Cx}
/-- tuple(a list): a frozen one -/
theorem call_tuple_frz : CallR X (.type "tuple") (fun xs H Q => ∃ p ys, xs = [.ref p] ∧ SqL X.K H p ys ∧ ∀ (l : Addr) (o : Obj), H l = none → o.dict = none → Q (.ref l) (upd H l (.frz o (.tup ys)))) := by
  intro pins s σ H xs us Q I r h
  obtain ⟨p, ys, rfl, hq, q⟩ := h
  obtain ⟨u, rfl, rx⟩ := vals1 r
  cases rx
  obtain ⟨its, rv, pl, hz⟩ := I.list hq
  have hl := rv.length
  refine call_tuple_list pl.isList (fun h2 kp => ?_) (by rw [List.size_toArray]; omega)
  have J := (I.kept (h' := h2) (t' := s.toks) kp).laid (h' := h2.push { cls := .type "tuple", data := .seq its.toArray }) (a := h2.objs.size) (t' := s.toks) (o := .frz { cls := .type "tuple", data := .seq its.toArray } (.tup ys)) (fun b o e => Heap.get?_push_of_some _ e) (Nat.le_refl _)
    ⟨Heap.get?_push_size _ rfl, hz, its, rv, IsTup.new _ _⟩
  exact ⟨.ref h2.objs.size, _, J, rfl, q _ _ ((I.kept (h' := h2) (t' := s.toks) kp).hok.fresh (Nat.le_refl _)) rfl⟩
/-- a name of a frozen thing, thawed -/
def tThaw (H0 : Hp) (te : TE) : TE := fun σ H Q => te σ H fun x H1 => ∃ (d : Addr) (o : Obj) (u : HO), x = .ref d ∧ H1 d = some (.frz o u) ∧ (∀ o' u', H0 d ≠ some (.frz o' u')) ∧ Q (.ref d) (upd H1 d u)
theorem pe_thaw {e : Expr} {te : TE} (h : PE X e te) : PE X e (tThaw X.H_0 te) := by
  refine ⟨fun pins s σ H Q I hq => ?_⟩
  refine thn (h.run pins s σ H _ I hq) fun v s1 ⟨x, H1, I1, r1, q1⟩ => ?_
  obtain ⟨d, o, u, rfl, e1, e2, q2⟩ := q1
  exact ⟨.ref d, _, I1.unlock e1 e2, r1, q2⟩
def tIdxF (k : Int) (to : TE) : TE := fun σ H Q => to σ H fun x H1 => ∃ (d : Addr) (o : Obj) (ns : List Int), x = .ref d ∧ H1 d = some (.frz o (.tup (ns.map V.int))) ∧ o.dict = none ∧ k ∈ ns ∧ Q (.int (ns.idxOf k : Nat)) H1
theorem pe_idxF {o e : Expr} {to : TE} {k : Int} {p1 p2 : Pos} (ho : PE X o to) (he : PE X e (tC (.int k)))
    (h1 : attributeBase o "index" X.env (eval o X.env) = eval o X.env)
    (h2 : ((backTo p2 (starEach [e] X.env)).all (fun x => !x.1) && (backToKw p2 (keywordEach [] X.env)).all (fun x => x.1.isSome) && decide (([e] : List Expr).length + ([] : List Keyword).length + (if ([] : List Keyword).isEmpty then 0 else 1) < 30)) = true)
    (h3 : (p1.endLine == p2.line) = true) (h4 : starEach [e] X.env = (false, eval e X.env) :: starEach [] X.env) (h5 : (backTo p2 (starEach [] X.env)).any (·.1) = false) : PE X (.Call (.Attribute o "index" p1) [e] [] p2) (tIdxF k to) := by
  refine ⟨fun pins s σ H Q I hq => wpAny_Call_method_late h1 h2 h3 rfl (thn (ho.run pins s σ H _ I hq) fun v s1 ⟨x, H1, I1, r1, q1⟩ => ?_)⟩
  obtain ⟨d, ob, ns, rfl, e1, e2, hk, q2⟩ := q1
  have ok := I1.hok d _ e1
  obtain ⟨g1, g2, its, g3, oo, g4, g5, g6⟩ := ok
  cases r1
  have eo : ob = oo := Option.some.inj (g1.symm.trans g4)
  refine ⟨"tuple", "tuple.index", PySem.F.plainAttrs_tuple, PySem.F.slot_tuple_index, PySem.F.type_tuple_index, ⟨ob, g1, eo ▸ g5⟩, fun a ea => by cases ea; exact ⟨ob, g1, e2⟩, ?_⟩
  have hA := (pa_cons he pa_nil h4).run p2 pins s1 σ H1 (fun vs H2 => vs = [.int k] ∧ H2 = H1) I1 ⟨rfl, rfl⟩
  rw [h4] at hA ⊢
  refine Calls.callWith_builtin (by show (false || (backTo p2 (starEach [] X.env)).any (·.1)) = false; rw [h5]; rfl) (Calls.evalArgs_plain (thn hA fun us s2 ⟨vs, H2, I2, r2, a, b⟩ => ?_))
  subst a b
  exact mt_tup_ints pins s2 σ _ (.ref d) [.int k] _ us Q I2 rfl r2 ⟨d, ns, k, rfl, rfl, .inl (.inr ⟨ob, e1⟩), hk, q2⟩
end
end Gr

set_option Elab.async false
set_option maxRecDepth 100000
set_option linter.all false
/-! Ours: the repr of a tuple of numbers; lists of numbers that are equal. -/
namespace Gr
open PySem PySem.Spec PyProof.Rows L2 GxR
theorem shown_num {i : Int} (h0 : 0 ≤ i) (h1 : i < 10 ^ 10) : (PyData.int i).shown.length ≤ 11 := by
  rw [PyData.shown_int]
  show (Str.ofString (toString i)).length ≤ 11
  rw [PySem.ofString_length]
  exact int_text_length_le10 (by decide) (by omega)
theorem showall_nums : ∀ {l : List Int}, (∀ i ∈ l, 0 ≤ i ∧ i < 10 ^ 10) → PyData.showableAll (l.map PyData.int) = true
  | [], _ => rfl
  | i :: l, h => by
    have ih := showall_nums (l := l) fun j hj => h j (List.mem_cons_of_mem _ hj)
    have h1 := h i List.mem_cons_self
    have h2 : i.natAbs.log2 < 1920 := by
      by_cases z : i.natAbs = 0
      · rw [z]; decide
      · exact Nat.lt_of_lt_of_le ((Nat.log2_lt z).mpr (show i.natAbs < 2 ^ 40 by omega)) (by decide)
    simp [PyData.showableAll, PyData.showable, ih, h2]
theorem depthall_nums : ∀ l : List Int, PyData.depthAll (l.map PyData.int) ≤ 2
  | [] => by simp [PyData.depthAll]
  | i :: l => by
    have := depthall_nums l
    simp only [List.map_cons, PyData.depthAll, PyData.depth]
    omega
theorem piled_nums : ∀ {l : List Int}, (∀ i ∈ l, 0 ≤ i ∧ i < 10 ^ 10) → piled (PyData.shownAll (l.map PyData.int)) ≤ 13 * l.length
  | [], _ => by simp [PyData.shownAll, piled_nil]
  | i :: l, h => by
    have ih := piled_nums (l := l) fun j hj => h j (List.mem_cons_of_mem _ hj)
    have h1 := shown_num (h i List.mem_cons_self).1 (h i List.mem_cons_self).2
    simp only [List.map_cons, PyData.shownAll, piled_cons, List.length_cons]
    omega
theorem shown_tup_le (ds : List PyData) : (PyData.tuple ds).shown.length ≤ piled (PyData.shownAll ds) + 3 := by
  rw [PyData.shown_tuple]
  have e1 : ("(" : Str).length = 1 := by decide +kernel
  have e2 : (Str.ofString (if (ds.length == 1) = true then ",)" else ")")).length ≤ 2 := by
    split <;> decide +kernel
  cases ds with
  | nil => decide +kernel
  | cons d r =>
    have h := join_length_add (PyData.shownAll (d :: r)) (by simp [PyData.shownAll])
    rw [Str.length_append, Str.length_append]
    omega
theorem nums_facts {l : List Int} (h : ∀ i ∈ l, 0 ≤ i ∧ i < 10 ^ 10) (n : l.length ≤ 100) : (PyData.tuple (l.map PyData.int)).showable = true ∧ (PyData.tuple (l.map PyData.int)).depth ≤ 60 ∧ (PyData.tuple (l.map PyData.int)).shown.length ≤ sizeLine := by
  have a := showall_nums h
  have b := depthall_nums l
  have c := piled_nums h
  have d := shown_tup_le (l.map PyData.int)
  have mz : 5000 ≤ sizeLine := by decide
  exact ⟨by simp [PyData.showable, a], by simp only [PyData.depth]; omega, by omega⟩
theorem lay_nums : ∀ l : List Int, PyData.canLayAll0 (l.map PyData.int) = true
  | [] => rfl
  | i :: l => by
    have := lay_nums l
    simp [PyData.canLayAll0, PyData.canLay0, this]
theorem shaped_nums (l : List Int) : SeqAt.shaped (.list (l.map PyData.int)) = true := by
  have a := lay_nums l
  have b := depthall_nums l
  unfold SeqAt.shaped
  rw [Bool.and_eq_true, decide_eq_true_eq]
  exact ⟨by simp [PyData.canLay0, a], by simp only [PyData.depth]; omega⟩
theorem eqv_nums (l : List Int) : PyData.eqv (.list (l.map PyData.int)) (.list (l.map PyData.int)) = true :=
  SeqAt.eqv_refl _ (by have a := lay_nums l; simp [PyData.canLay0, a])
theorem dp_nums {K : PySem.W.Frag} {H : Hp} : ∀ l : List Int, DpAll K H (l.map V.int) (l.map PyData.int)
  | [] => .nil
  | i :: l => .cons (.int i) (dp_nums l)
end Gr

set_option Elab.async false
set_option maxRecDepth 100000
set_option maxHeartbeats 4000000
set_option linter.all false
/-! Ours: a dict display of one pair whose key is a tuple. -/
namespace Gr
open PySem PySem.Spec PyProof.Rows L2 GxR
/-- {k: v}, k a tuple of ints and texts; the new dict stands empty while the pair is made -/
def tDispT (tk tv : TE) : TE := fun σ H Q => ∀ p, H p = none → tk σ (upd H p (.dT [])) fun x H1 => tv σ H1 fun y H2 => ∃ b ks, x = .ref b ∧ H2 b = some (.tup (ks.map kV)) ∧ H2 p = some (.dT []) ∧ Q (.ref p) (upd H2 p (.dT [(ks, y)]))
theorem pe_dispT {X : Cx} {k v : Expr} {tk tv : TE} {pos : Pos} (hu : X.A.units < cLine) (hk : PE X k tk) (hv : PE X v tv) : PE X (.Dict [some k] [v] pos) (tDispT tk tv) := by
  refine ⟨fun pins s σ H Q I q => ?_⟩
  have hn := I.hok.fresh (Nat.le_refl s.heap.objs.size)
  have I1 := I.laid (a := s.heap.objs.size) (o := .dT []) (h' := s.heap.push { cls := .type "dict", data := .dict #[] }) (t' := s.toks) (fun _ _ q => Heap.get?_push_of_some _ q) (Nat.le_refl _) (dt_empty s.heap I.big)
  rw [PySem.arm_eval_Dict, PySem.zip_pairTrees [some k] [v] X.env pos rfl rfl, PySem.dictDisplay_pairs _ (by simp [PySem.pairTrees]) (by simp [PySem.pairTrees])]
  refine wpAny_bind (wpAny_standAt (wpAny_bind (PySem.wpAny_subDictH (knd := tupleKind (mixKind X.prog X.w)) hu (by simp [PySem.pairTrees]) ?_)))
  refine PySem.pairTrees_cons_walk (thn (hk.run pins _ σ _ _ I1 (q _ hn)) fun kv s1 ⟨x, H1, I2, rx, q1⟩ => thn (hv.run pins s1 σ H1 _ I2 q1) fun vv s2 ⟨y, H2, I3, ry, b, ks, ex, eb, ed, q2⟩ => PySem.pairTrees_nil_walk ?_)
  subst ex
  cases (show kv = Value.ref b from rx)
  obtain ⟨z, hd, xs, rel, dd⟩ := dt_of I3.hok ed
  cases rel
  refine ⟨[(ks, b, vv)], ⟨rfl, rfl, key_of I3.hok eb, trivial⟩, dd, fun h' tk dd' hs => wpAny_pure ⟨.ref s.heap.objs.size, _, ?_, rfl, q2⟩⟩
  obtain ⟨q, es, ep, hq, h2, h3, h4, _, h5⟩ := dd'
  refine d_write I3 (by rw [ed]; exact True.intro) hs ⟨q, hq⟩ ⟨by show 1 ≤ sizeLine; rw [sizeLine_eq]; decide, hd, _, .cons ⟨rfl, ?_, ry⟩ .nil, q, es, ep, hq, h2, h3, h4, h5⟩
  rw [upd_ne (ne_of eb ed (fun z => nomatch z))]
  exact eb
end Gr

set_option Elab.async false
set_option maxRecDepth 100000
set_option linter.all false
/-! Ours: the repr of lists and tuples of small data: facts. -/
namespace Gr
open PySem PySem.Spec PyProof.Rows L2 GxR
def SmallD (k s : Nat) (d : PyData) : Prop := d.showable = true ∧ d.depth ≤ k ∧ d.shown.length ≤ s
theorem small_none : SmallD 2 11 .none := ⟨rfl, by decide +kernel, by decide +kernel⟩
theorem small_int {i : Int} (h0 : 0 ≤ i) (h1 : i < 10 ^ 10) : SmallD 2 11 (.int i) := by
  have a := showall_nums (l := [i]) (fun j hj => by rw [List.mem_singleton.mp hj]; exact ⟨h0, h1⟩)
  refine ⟨?_, by simp [PyData.depth], shown_num h0 h1⟩
  simpa [PyData.showableAll] using a
theorem showall_of : ∀ {ds : List PyData} {k s : Nat}, (∀ d ∈ ds, SmallD k s d) → PyData.showableAll ds = true
  | [], _, _, _ => rfl
  | d :: ds, k, s, h => by
    have ih := showall_of (ds := ds) fun x hx => h x (List.mem_cons_of_mem _ hx)
    simp [PyData.showableAll, ih, (h d List.mem_cons_self).1]
theorem depthall_of : ∀ {ds : List PyData} {k s : Nat}, (∀ d ∈ ds, SmallD k s d) → PyData.depthAll ds ≤ k + 1
  | [], _, _, _ => by simp [PyData.depthAll]
  | d :: ds, k, s, h => by
    have ih := depthall_of (ds := ds) fun x hx => h x (List.mem_cons_of_mem _ hx)
    have := (h d List.mem_cons_self).2.1
    simp only [PyData.depthAll]
    omega
theorem piled_of : ∀ {ds : List PyData} {k s : Nat}, (∀ d ∈ ds, SmallD k s d) → piled (PyData.shownAll ds) ≤ (s + 2) * ds.length
  | [], _, _, _ => by simp [PyData.shownAll, piled_nil]
  | d :: ds, k, s, h => by
    have ih := piled_of (ds := ds) fun x hx => h x (List.mem_cons_of_mem _ hx)
    have h1 := (h d List.mem_cons_self).2.2
    simp only [PyData.shownAll, piled_cons, List.length_cons, Nat.mul_succ]
    omega
theorem shown_lst_le (ds : List PyData) : (PyData.list ds).shown.length ≤ piled (PyData.shownAll ds) + 3 := by
  rw [PyData.shown_list]
  have e1 : ("[" : Str).length = 1 := by decide +kernel
  have e2 : ("]" : Str).length = 1 := by decide +kernel
  cases ds with
  | nil => decide +kernel
  | cons d r =>
    have h := join_length_add (PyData.shownAll (d :: r)) (by simp [PyData.shownAll])
    rw [Str.length_append, Str.length_append]
    omega
theorem small_tup {ds : List PyData} {k s : Nat} (h : ∀ d ∈ ds, SmallD k s d) : SmallD (k + 2) ((s + 2) * ds.length + 3) (.tuple ds) := by
  have a := showall_of h
  have b := depthall_of h
  have c := piled_of h
  have d := shown_tup_le ds
  exact ⟨by simp [PyData.showable, a], by simp only [PyData.depth]; omega, by omega⟩
theorem small_lst {ds : List PyData} {k s : Nat} (h : ∀ d ∈ ds, SmallD k s d) : SmallD (k + 2) ((s + 2) * ds.length + 3) (.list ds) := by
  have a := showall_of h
  have b := depthall_of h
  have c := piled_of h
  have d := shown_lst_le ds
  exact ⟨by simp [PyData.showable, a], by simp only [PyData.depth]; omega, by omega⟩
theorem SmallD.mono {k s k' s' : Nat} {d : PyData} (h : SmallD k s d) (a : k ≤ k') (b : s ≤ s') : SmallD k' s' d := ⟨h.1, Nat.le_trans h.2.1 a, Nat.le_trans h.2.2 b⟩
theorem SmallD.facts {k s : Nat} {d : PyData} (h : SmallD k s d) (a : k ≤ 60) (b : s ≤ 5000) : d.showable = true ∧ d.depth ≤ 60 ∧ d.shown.length ≤ sizeLine := by
  have mz : 5000 ≤ sizeLine := by decide
  exact ⟨h.1, Nat.le_trans h.2.1 a, Nat.le_trans h.2.2 (by omega)⟩
end Gr

set_option linter.all false
/-! Ours: the mathematics of patterns: a table of truths by rows, by columns; places as bits of a number. -/
namespace PM
/-- one row more: the sign c of the body, star or not; r the string, p the row ahead -/
def nrow (star : Bool) (c : Option Nat) (r : List Nat) (p : Nat → Bool) : Nat → Bool
  | 0 => p 0 && star
  | k + 1 => if star then p (k + 1) || nrow star c r p k else p k && (c == r[k]?)
def isSt (b : List Nat) (i : Nat) : Bool := b[i]? == some 42
/-- the first i signs of b fit the first k of r -/
def F (b r : List Nat) : Nat → Nat → Bool
  | 0 => fun k => k == 0
  | i + 1 => nrow (isSt b i) b[i]? r (F b r i)
theorem F_zero (b r : List Nat) (k : Nat) : F b r 0 k = (k == 0) := rfl
theorem F_succ_zero (b r : List Nat) (i : Nat) : F b r (i + 1) 0 = (F b r i 0 && isSt b i) := rfl
theorem F_succ (b r : List Nat) (i k : Nat) : F b r (i + 1) (k + 1) = if isSt b i then F b r i (k + 1) || F b r (i + 1) k else F b r i k && (b[i]? == r[k]?) := rfl

/-- a body that begins with a sign fits nothing at the empty string -/
theorem F_begin {b : List Nat} (r : List Nat) (h : isSt b 0 = false) : ∀ i, F b r i 0 = (i == 0)
  | 0 => rfl
  | 1 => by rw [F_succ_zero, h]; cases F b r 0 0 <;> rfl
  | i + 2 => by
    rw [F_succ_zero, F_begin r h (i + 1)]
    rfl

/-- only the first k signs of the string matter -/
theorem F_local {b r r' : List Nat} : ∀ (i k : Nat), (∀ j, j < k → r[j]? = r'[j]?) → F b r i k = F b r' i k
  | 0, k, _ => rfl
  | i + 1, 0, h => by rw [F_succ_zero, F_succ_zero, F_local i 0 h]
  | i + 1, k + 1, h => by
    have h' : ∀ j, j < k → r[j]? = r'[j]? := fun j hj => h j (Nat.lt_succ_of_lt hj)
    rw [F_succ, F_succ, F_local i (k + 1) h, F_local (i + 1) k h', F_local i k h', h k (Nat.lt_succ_self k)]
/-- only the first i signs of the body matter -/
theorem F_body {b b' r : List Nat} : ∀ (i k : Nat), (∀ j, j < i → b[j]? = b'[j]?) → F b r i k = F b' r i k
  | 0, k, _ => rfl
  | i + 1, 0, h => by
    rw [F_succ_zero, F_succ_zero, F_body i 0 (fun j hj => h j (Nat.lt_succ_of_lt hj))]
    unfold isSt
    rw [h i (Nat.lt_succ_self i)]
  | i + 1, k + 1, h => by
    have h' : ∀ j, j < i → b[j]? = b'[j]? := fun j hj => h j (Nat.lt_succ_of_lt hj)
    rw [F_succ, F_succ, F_body i (k + 1) h', F_body (i + 1) k h, F_body i k h']
    unfold isSt
    rw [h i (Nat.lt_succ_self i)]
/-- a star at the end takes one sign more -/
theorem F_star {b r : List Nat} {i k : Nat} (h : isSt b i = true) (f : F b r (i + 1) k = true) : F b r (i + 1) (k + 1) = true := by
  rw [F_succ, if_pos h, f, Bool.or_true]
theorem F_stars {b r : List Nat} {i k : Nat} (h : isSt b i = true) (f : F b r (i + 1) k = true) : ∀ n, F b r (i + 1) (k + n) = true
  | 0 => f
  | n + 1 => F_star h (F_stars h f n)
/-- without stars just the string itself is fitted -/
theorem F_plain {b r : List Nat} (h : ∀ i, isSt b i = false) : ∀ i k, i ≤ b.length → k ≤ r.length → (F b r i k = true ↔ b.take i = r.take k)
  | 0, 0, _, _ => by simp [F]
  | 0, k + 1, _, hk => by
    rw [F_zero]
    constructor
    · intro e
      cases e
    · intro e
      have := congrArg List.length e
      rw [List.length_take, List.length_take] at this
      omega
  | i + 1, 0, hi, _ => by
    rw [F_succ_zero, h i, Bool.and_false]
    constructor
    · intro e
      cases e
    · intro e
      have := congrArg List.length e
      rw [List.length_take, List.length_take] at this
      omega
  | i + 1, k + 1, hi, hk => by
    have hi' : i < b.length := hi
    have hk' : k < r.length := hk
    rw [F_succ, h i, if_neg Bool.false_ne_true, Bool.and_eq_true, F_plain h i k (Nat.le_of_lt hi') (Nat.le_of_lt hk'), List.getElem?_eq_getElem hi', List.getElem?_eq_getElem hk',
      beq_iff_eq, Option.some_inj, List.take_succ_eq_append_getElem hi', List.take_succ_eq_append_getElem hk']
    constructor
    · rintro ⟨e1, e2⟩
      rw [e1, e2]
    · intro e
      have el : (b.take i).length = (r.take k).length := by
        have := congrArg List.length e
        rw [List.length_append, List.length_append] at this
        simpa using this
      obtain ⟨e1, e2⟩ := List.append_inj e el
      exact ⟨e1, by simpa using e2⟩

/-! ### numbers as sets of places -/
def bits (f : Nat → Bool) : Nat → Nat
  | 0 => 0
  | n + 1 => bits f n ||| (if f n then 2 ^ n else 0)
theorem testBit_pow (n i : Nat) : (2 ^ n).testBit i = decide (n = i) := Nat.testBit_two_pow ..
theorem bits_test (f : Nat → Bool) : ∀ n i, (bits f n).testBit i = (decide (i < n) && f i)
  | 0, i => by simp [bits]
  | n + 1, i => by
    unfold bits
    rw [Nat.testBit_or, bits_test f n i]
    by_cases hi : i = n
    · subst hi
      cases hf : f i <;> simp [testBit_pow]
    · have h1 : decide (i < n + 1) = decide (i < n) := by
        apply decide_eq_decide.mpr
        omega
      rw [h1]
      cases hf : f n
      · simp
      · have : ¬ n = i := fun e => hi e.symm
        simp [testBit_pow, this]
theorem bits_lt (f : Nat → Bool) (n : Nat) : bits f n < 2 ^ n := by
  induction n with
  | zero => exact Nat.zero_lt_one
  | succ n ih =>
    unfold bits
    refine Nat.or_lt_two_pow (Nat.lt_trans ih (Nat.pow_lt_pow_right (by decide) (Nat.lt_succ_self n))) ?_
    cases f n
    · exact Nat.two_pow_pos _
    · exact Nat.pow_lt_pow_right (by decide) (Nat.lt_succ_self n)
theorem eq_of_test {a b : Nat} (h : ∀ i, a.testBit i = b.testBit i) : a = b := Nat.eq_of_testBit_eq h
theorem lt_of_test {a n : Nat} (h : ∀ i, n ≤ i → a.testBit i = false) : a < 2 ^ n := Nat.lt_pow_two_of_testBit a h

/-- the body's stars; those places kept by any sign; the places that a sign leads on from -/
def starsOf (b : List Nat) (n : Nat) : Nat := bits (isSt b) n
def heldOf (b : List Nat) (n : Nat) : Nat := bits (isSt b) n * 2
def moveOf (b : List Nat) (c : Nat) (n : Nat) : Nat := bits (fun i => !isSt b i && (b[i]? == some c)) n

theorem mul2_test (a i : Nat) : (a * 2).testBit i = (decide (0 < i) && a.testBit (i - 1)) := by
  have := Nat.testBit_mul_two_pow a i 1
  rw [Nat.pow_one] at this
  rw [this]
  rfl
theorem mul2_or (a b : Nat) : (a ||| b) * 2 = a * 2 ||| b * 2 := by
  refine eq_of_test fun i => ?_
  rw [mul2_test, Nat.testBit_or, Nat.testBit_or, mul2_test, mul2_test]
  cases decide (0 < i) <;> simp

/-- one turn of the closing -/
def grow (st s : Nat) : Nat := s ||| (s &&& st) * 2
theorem grow_test (st s i : Nat) : (grow st s).testBit i = (s.testBit i || (decide (0 < i) && (s.testBit (i - 1) && st.testBit (i - 1)))) := by
  unfold grow
  rw [Nat.testBit_or, mul2_test, Nat.testBit_and]
/-- what closing comes to -/
def clo (st s : Nat → Bool) : Nat → Bool
  | 0 => s 0
  | i + 1 => s (i + 1) || (clo st s i && st i)
theorem clo_of {st s c : Nat} {s0 : Nat → Bool} (h0 : ∀ i, s0 i = true → s.testBit i = true) (h1 : ∀ i, s.testBit i = true → clo (st.testBit ·) s0 i = true) (hf : grow st s = s) :
    ∀ i, s.testBit i = clo (st.testBit ·) s0 i
  | 0 => by
    rw [Bool.eq_iff_iff]
    exact ⟨h1 0, fun e => h0 0 e⟩
  | i + 1 => by
    rw [Bool.eq_iff_iff]
    refine ⟨h1 _, fun e => ?_⟩
    unfold clo at e
    rw [Bool.or_eq_true] at e
    rcases e with e | e
    · exact h0 _ e
    · rw [← clo_of (c := c) h0 h1 hf i] at e
      rw [← hf, grow_test]
      simp only [Nat.succ_sub_one, Nat.zero_lt_succ, decide_true, Bool.true_and]
      rw [e, Bool.or_true]
theorem grow_sub {st s : Nat} {s0 : Nat → Bool} (h1 : ∀ i, s.testBit i = true → clo (st.testBit ·) s0 i = true) : ∀ i, (grow st s).testBit i = true → clo (st.testBit ·) s0 i = true := by
  intro i e
  rw [grow_test, Bool.or_eq_true] at e
  rcases e with e | e
  · exact h1 i e
  · cases i with
    | zero => cases e
    | succ i =>
      simp only [Nat.succ_sub_one, Nat.zero_lt_succ, decide_true, Bool.true_and, Bool.and_eq_true] at e
      unfold clo
      rw [h1 i e.1, e.2]
      simp
theorem grow_ge (st s : Nat) : s ≤ grow st s := Nat.left_le_or
theorem grow_keeps {st s : Nat} {i : Nat} (h : s.testBit i = true) : (grow st s).testBit i = true := by
  rw [grow_test, h]
  rfl
theorem grow_lt {st s n : Nat} (hs : s < 2 ^ (n + 1)) (ht : st < 2 ^ n) : grow st s < 2 ^ (n + 1) := by
  unfold grow
  refine Nat.or_lt_two_pow hs ?_
  have h1 : s &&& st < 2 ^ n := Nat.lt_of_le_of_lt Nat.and_le_right ht
  rw [Nat.pow_succ]
  omega

/-- a step: the bits ahead of closing -/
def stepped (b : List Nat) (n s c : Nat) : Nat := (s &&& moveOf b c n) * 2 ||| (s &&& heldOf b n)
theorem stepped_test (b : List Nat) (n s c i : Nat) : (stepped b n s c).testBit i = (decide (0 < i) && ((s.testBit (i - 1) && (moveOf b c n).testBit (i - 1)) || (s.testBit i && (bits (isSt b) n).testBit (i - 1)))) := by
  unfold stepped heldOf
  rw [Nat.testBit_or, mul2_test, Nat.testBit_and, Nat.testBit_and, mul2_test]
  cases decide (0 < i) <;> simp
/-- the places at the first k signs, as a number -/
def Pl (b r : List Nat) (k s : Nat) : Prop := ∀ i, s.testBit i = (decide (i ≤ b.length) && F b r i k)
theorem clo_step {b r : List Nat} {k s c : Nat} (hs : Pl b r k s) (hc : r[k]? = some c) : ∀ i, clo ((starsOf b b.length).testBit ·) ((stepped b b.length s c).testBit ·) i = (decide (i ≤ b.length) && F b r i (k + 1))
  | 0 => by
    unfold clo
    rw [stepped_test, F_zero]
    simp
  | i + 1 => by
    have sti : (starsOf b b.length).testBit i = isSt b i := by
      unfold starsOf
      rw [bits_test]
      by_cases hi : i < b.length
      · simp [hi]
      · unfold isSt
        rw [List.getElem?_eq_none (Nat.le_of_not_lt hi)]
        simp
    unfold clo
    rw [clo_step hs hc i, stepped_test, sti]
    simp only [Nat.succ_sub_one, Nat.zero_lt_succ, decide_true, Bool.true_and]
    rw [hs i, hs (i + 1)]
    unfold moveOf
    rw [bits_test, bits_test]
    by_cases hi : i < b.length
    · have h1 : decide (i ≤ b.length) = true := decide_eq_true (Nat.le_of_lt hi)
      have h2 : decide (i + 1 ≤ b.length) = true := decide_eq_true hi
      have h3 : decide (i < b.length) = true := decide_eq_true hi
      rw [h1, h2, h3, F_succ, hc]
      cases hst : isSt b i
      · simp
      · simp [Bool.or_comm]
    · have h2 : decide (i + 1 ≤ b.length) = false := decide_eq_false (by omega)
      have h3 : decide (i < b.length) = false := decide_eq_false hi
      have h4 : isSt b i = false := by
        unfold isSt
        rw [List.getElem?_eq_none (Nat.le_of_not_lt hi)]
        rfl
      rw [h2, h3, h4]
      simp
end PM

set_option Elab.async false
set_option maxRecDepth 100000
set_option maxHeartbeats 4000000
set_option linter.all false
namespace KP
open PySem PySem.Spec PyProof.Rows L2 Gr GxR
def top (i : Nat) : Stmt := PySem.Challenge.pw_gentlerounds_k18_whole_monitor_objects_a.main.body.getD i (.Pass ⟨0, 0, 0, 0⟩)
abbrev s_opens : Stmt := top 3
abbrev s_next_open : Stmt := top 4
abbrev s_next_ask : Stmt := top 5
abbrev s_soonest_asks : Stmt := top 6
abbrev s_is_whole : Stmt := top 13
abbrev s_is_between : Stmt := top 14
abbrev s_is_tuple : Stmt := top 15
abbrev s_check_from : Stmt := top 17
abbrev s_check_between : Stmt := top 18
abbrev s_is_limit : Stmt := top 22
abbrev s_are_limits : Stmt := top 23
abbrev s_are_hours : Stmt := top 24
abbrev s_are_rules : Stmt := top 25
abbrev s_check_rules : Stmt := top 26
abbrev s_check_amount : Stmt := top 27
abbrev s_span_of : Stmt := top 29
abbrev s_room : Stmt := top 30
abbrev s_has_room : Stmt := top 31
abbrev s_shifted : Stmt := top 32
abbrev s_init : Stmt := inClass (top 33) 0
abbrev s_rules : Stmt := inClass (top 33) 1
abbrev s_moment : Stmt := inClass (top 33) 2
abbrev s_counts : Stmt := inClass (top 33) 3
abbrev s_asked : Stmt := inClass (top 33) 4
abbrev s__check : Stmt := inClass (top 33) 5
abbrev s__counts_then : Stmt := inClass (top 33) 6
abbrev s__asked_then : Stmt := inClass (top 33) 7
abbrev s_lets : Stmt := inClass (top 33) 8
abbrev s_ask : Stmt := inClass (top 33) 9
abbrev s_soonest : Stmt := inClass (top 33) 10
abbrev s_undo : Stmt := inClass (top 33) 11
abbrev s_l_well : Stmt := top 35
abbrev s_l_pick : Stmt := top 36
abbrev s_l_one : Stmt := top 37
abbrev s_l_open : Stmt := top 38
abbrev s_l_may : Stmt := top 39
abbrev s_l_soonest : Stmt := top 40
abbrev s_l_some_limits : Stmt := top 41
abbrev s_l_some_hours : Stmt := top 42
abbrev s_l_asked : Stmt := top 43
abbrev s_l_state_right : Stmt := top 44
abbrev s_l_deed_right : Stmt := top 45
abbrev s_law : Stmt := top 46
/-- a def whose code object stands at c -/
structure FunC (K : PySem.W.Frag) (x ql : Str) (st : Stmt) (f : Addr) (fd : FuncData) (c : Addr) : Prop where
  ex : ∃ (oc : Value) (od : Option Addr) (kV doc pm : Value) (an : Option Addr) (ct : Value) (osl : Array (Option Value)),
    fd = PySem.W.fnOf x ql (defArgs st) (defBody st) (defScope st) .none kV doc pm an (.ref c) ct ∧ K.lookup f = some ⟨oc, od, .func fd, osl⟩ ∧ PySem.W.codeIn K (.ref c) ql = true
  kp : PySem.W.keepIn K (.ref f) = true
theorem FunC.fun {K : PySem.W.Frag} {x ql : Str} {st : Stmt} {f : Addr} {fd : FuncData} {c : Addr} (F : FunC K x ql st f fd c) : Fun K x ql st f fd := by
  obtain ⟨⟨oc, od, kV, doc, pm, an, ct, osl, e1, e2, e3⟩, kp⟩ := F
  exact ⟨⟨oc, od, kV, doc, pm, an, .ref c, ct, osl, e1, e2, e3⟩, kp⟩
/-- such a def by its body; its code object is known there -/
theorem FunC.ok {P : Program} {w : World} {K : PySem.W.Frag} {mg : Str → Option Value} {base : Heap} {x ql : Str} {st : Stmt} {f c : Addr} {fd : FuncData} {N ps : List Str} {k : Nat} {sp : Sp} (F : FunC K x ql st f fd c) (S : FnScope N ps (defScope st)) (len : ∀ vs H Q E, sp vs H Q E → vs.length = ps.length)
    (hb : ∀ (A : Around) (outer : List Env) (s : Shared) (H : Hp) (vs : List V) (Q : VK) (E : XK), Room k (A.deeper (envOfC ql (defScope st) s.heap.objs.size f (.ref c))) → sp vs H Q E →
      ∃ t, PSs (cxOf CX0 P w K mg base N ql (defScope st) f (.ref c) A outer s H E).nox (defBody st) t ∧ t { nx := fun _ H' => Q .non H', rt := Q } (start N vs) H) : FnOk P w K mg base CX0 (k + 1) f fd ps sp := by
  obtain ⟨oc, od, kV, doc, pm, an, ct, osl, rfl, lk, hcd⟩ := F.ex
  refine fn_of lk hcd S len fun A outer s H vs Q E hr hsp => ?_
  obtain ⟨t, h, q⟩ := hb A outer s H vs Q E hr hsp
  exact ⟨t, h.nox, q⟩
/-- a def with defaults, by its body -/
theorem okN {P : Program} {w : World} {K : PySem.W.Frag} {mg : Str → Option Value} {base : Heap} {x qual : Str} {params : Arguments} {body : List Stmt} {scope : Scope} {dvs : List V} {kws : List (Str × V)} {f : Addr} {fd : FuncData} {N ps : List Str} {k : Nat} {sp : Sp} (F : FunD K x qual params body scope dvs kws f fd) (S : FnScope N ps scope) (len : ∀ vs H Q E, sp vs H Q E → vs.length = ps.length)
    (hb : ∀ (cdv : Value) (A : Around) (outer : List Env) (s : Shared) (H : Hp) (vs : List V) (Q : VK) (E : XK), Room k (A.deeper (envOfC qual scope s.heap.objs.size f cdv)) → sp vs H Q E →
      ∃ t, PSs (cxOf CX0 P w K mg base N qual scope f cdv A outer s H E).nox body t ∧ t { nx := fun _ H' => Q .non H', rt := Q } (start N vs) H) : FnOk P w K mg base CX0 (k + 1) f fd ps sp := F.ok S len fun cdv A outer s H vs Q E hr hsp => by
  obtain ⟨t, h, q⟩ := hb cdv A outer s H vs Q E hr hsp
  exact ⟨t, h.nox, q⟩
structure D (K : PySem.W.Frag) (mg : Str → Option Value) where
  f_opens : Addr
  d_opens : FuncData
  U_opens : Fun K "opens" "opens" s_opens f_opens d_opens
  g_opens : mg "opens" = some (.ref f_opens)
  f_next_open : Addr
  d_next_open : FuncData
  U_next_open : Fun K "next_open" "next_open" s_next_open f_next_open d_next_open
  g_next_open : mg "next_open" = some (.ref f_next_open)
  f_next_ask : Addr
  d_next_ask : FuncData
  U_next_ask : Fun K "next_ask" "next_ask" s_next_ask f_next_ask d_next_ask
  g_next_ask : mg "next_ask" = some (.ref f_next_ask)
  f_soonest_asks : Addr
  d_soonest_asks : FuncData
  U_soonest_asks : Fun K "soonest_asks" "soonest_asks" s_soonest_asks f_soonest_asks d_soonest_asks
  g_soonest_asks : mg "soonest_asks" = some (.ref f_soonest_asks)
  f_is_whole : Addr
  d_is_whole : FuncData
  U_is_whole : Fun K "is_whole" "is_whole" s_is_whole f_is_whole d_is_whole
  g_is_whole : mg "is_whole" = some (.ref f_is_whole)
  f_is_between : Addr
  d_is_between : FuncData
  U_is_between : Fun K "is_between" "is_between" s_is_between f_is_between d_is_between
  g_is_between : mg "is_between" = some (.ref f_is_between)
  f_is_tuple : Addr
  d_is_tuple : FuncData
  U_is_tuple : Fun K "is_tuple" "is_tuple" s_is_tuple f_is_tuple d_is_tuple
  g_is_tuple : mg "is_tuple" = some (.ref f_is_tuple)
  f_check_from : Addr
  d_check_from : FuncData
  U_check_from : Fun K "check_from" "check_from" s_check_from f_check_from d_check_from
  g_check_from : mg "check_from" = some (.ref f_check_from)
  f_check_between : Addr
  d_check_between : FuncData
  U_check_between : Fun K "check_between" "check_between" s_check_between f_check_between d_check_between
  g_check_between : mg "check_between" = some (.ref f_check_between)
  f_is_limit : Addr
  d_is_limit : FuncData
  U_is_limit : Fun K "is_limit" "is_limit" s_is_limit f_is_limit d_is_limit
  g_is_limit : mg "is_limit" = some (.ref f_is_limit)
  f_are_limits : Addr
  d_are_limits : FuncData
  c_are_limits : Addr
  P_are_limits : Addr
  V_are_limits : FunC K "are_limits" "are_limits" s_are_limits f_are_limits d_are_limits c_are_limits
  g_are_limits : mg "are_limits" = some (.ref f_are_limits)
  f_are_hours : Addr
  d_are_hours : FuncData
  c_are_hours : Addr
  P_are_hours : Addr
  V_are_hours : FunC K "are_hours" "are_hours" s_are_hours f_are_hours d_are_hours c_are_hours
  g_are_hours : mg "are_hours" = some (.ref f_are_hours)
  f_are_rules : Addr
  d_are_rules : FuncData
  U_are_rules : Fun K "are_rules" "are_rules" s_are_rules f_are_rules d_are_rules
  g_are_rules : mg "are_rules" = some (.ref f_are_rules)
  f_check_rules : Addr
  d_check_rules : FuncData
  U_check_rules : Fun K "check_rules" "check_rules" s_check_rules f_check_rules d_check_rules
  g_check_rules : mg "check_rules" = some (.ref f_check_rules)
  f_check_amount : Addr
  d_check_amount : FuncData
  U_check_amount : Fun K "check_amount" "check_amount" s_check_amount f_check_amount d_check_amount
  g_check_amount : mg "check_amount" = some (.ref f_check_amount)
  f_span_of : Addr
  d_span_of : FuncData
  U_span_of : Fun K "span_of" "span_of" s_span_of f_span_of d_span_of
  g_span_of : mg "span_of" = some (.ref f_span_of)
  f_room : Addr
  d_room : FuncData
  U_room : Fun K "room" "room" s_room f_room d_room
  g_room : mg "room" = some (.ref f_room)
  f_has_room : Addr
  d_has_room : FuncData
  U_has_room : Fun K "has_room" "has_room" s_has_room f_has_room d_has_room
  g_has_room : mg "has_room" = some (.ref f_has_room)
  f_shifted : Addr
  d_shifted : FuncData
  U_shifted : Fun K "shifted" "shifted" s_shifted f_shifted d_shifted
  g_shifted : mg "shifted" = some (.ref f_shifted)
  f_init : Addr
  d_init : FuncData
  W_init : FunD K "__init__" "Monitor.__init__" (defArgs s_init) (defBody s_init) (defScope s_init) [] [("moment", .int 0)] f_init d_init
  f_rules : Addr
  d_rules : FuncData
  U_rules : Fun K "rules" "Monitor.rules" s_rules f_rules d_rules
  f_moment : Addr
  d_moment : FuncData
  U_moment : Fun K "moment" "Monitor.moment" s_moment f_moment d_moment
  f_counts : Addr
  d_counts : FuncData
  U_counts : Fun K "counts" "Monitor.counts" s_counts f_counts d_counts
  f_asked : Addr
  d_asked : FuncData
  U_asked : Fun K "asked" "Monitor.asked" s_asked f_asked d_asked
  f__check : Addr
  d__check : FuncData
  U__check : Fun K "_check" "Monitor._check" s__check f__check d__check
  f__counts_then : Addr
  d__counts_then : FuncData
  U__counts_then : Fun K "_counts_then" "Monitor._counts_then" s__counts_then f__counts_then d__counts_then
  f__asked_then : Addr
  d__asked_then : FuncData
  U__asked_then : Fun K "_asked_then" "Monitor._asked_then" s__asked_then f__asked_then d__asked_then
  f_lets : Addr
  d_lets : FuncData
  W_lets : FunD K "lets" "Monitor.lets" (defArgs s_lets) (defBody s_lets) (defScope s_lets) [.int 1] [] f_lets d_lets
  f_ask : Addr
  d_ask : FuncData
  W_ask : FunD K "ask" "Monitor.ask" (defArgs s_ask) (defBody s_ask) (defScope s_ask) [.int 1] [] f_ask d_ask
  f_soonest : Addr
  d_soonest : FuncData
  W_soonest : FunD K "soonest" "Monitor.soonest" (defArgs s_soonest) (defBody s_soonest) (defScope s_soonest) [.int 1] [] f_soonest d_soonest
  f_undo : Addr
  d_undo : FuncData
  U_undo : Fun K "undo" "Monitor.undo" s_undo f_undo d_undo
  f_l_well : Addr
  d_l_well : FuncData
  U_l_well : Fun K "_law_well" "_law_well" s_l_well f_l_well d_l_well
  g_l_well : mg "_law_well" = some (.ref f_l_well)
  f_l_pick : Addr
  d_l_pick : FuncData
  U_l_pick : Fun K "_law_pick" "_law_pick" s_l_pick f_l_pick d_l_pick
  g_l_pick : mg "_law_pick" = some (.ref f_l_pick)
  f_l_one : Addr
  d_l_one : FuncData
  U_l_one : Fun K "_law_one" "_law_one" s_l_one f_l_one d_l_one
  g_l_one : mg "_law_one" = some (.ref f_l_one)
  f_l_open : Addr
  d_l_open : FuncData
  U_l_open : Fun K "_law_open" "_law_open" s_l_open f_l_open d_l_open
  g_l_open : mg "_law_open" = some (.ref f_l_open)
  f_l_may : Addr
  d_l_may : FuncData
  U_l_may : Fun K "_law_may" "_law_may" s_l_may f_l_may d_l_may
  g_l_may : mg "_law_may" = some (.ref f_l_may)
  f_l_soonest : Addr
  d_l_soonest : FuncData
  U_l_soonest : Fun K "_law_soonest" "_law_soonest" s_l_soonest f_l_soonest d_l_soonest
  g_l_soonest : mg "_law_soonest" = some (.ref f_l_soonest)
  f_l_some_limits : Addr
  d_l_some_limits : FuncData
  U_l_some_limits : Fun K "_law_some_limits" "_law_some_limits" s_l_some_limits f_l_some_limits d_l_some_limits
  g_l_some_limits : mg "_law_some_limits" = some (.ref f_l_some_limits)
  f_l_some_hours : Addr
  d_l_some_hours : FuncData
  U_l_some_hours : Fun K "_law_some_hours" "_law_some_hours" s_l_some_hours f_l_some_hours d_l_some_hours
  g_l_some_hours : mg "_law_some_hours" = some (.ref f_l_some_hours)
  f_l_asked : Addr
  d_l_asked : FuncData
  U_l_asked : Fun K "_law_asked" "_law_asked" s_l_asked f_l_asked d_l_asked
  g_l_asked : mg "_law_asked" = some (.ref f_l_asked)
  f_l_state_right : Addr
  d_l_state_right : FuncData
  U_l_state_right : Fun K "_law_state_right" "_law_state_right" s_l_state_right f_l_state_right d_l_state_right
  g_l_state_right : mg "_law_state_right" = some (.ref f_l_state_right)
  f_l_deed_right : Addr
  d_l_deed_right : FuncData
  U_l_deed_right : Fun K "_law_deed_right" "_law_deed_right" s_l_deed_right f_l_deed_right d_l_deed_right
  g_l_deed_right : mg "_law_deed_right" = some (.ref f_l_deed_right)
  f_law : Addr
  d_law : FuncData
  U_law : Fun K "law" "law" s_law f_law d_law
  g_law : mg "law" = some (.ref f_law)
  C_Monitor : Addr
  cl_Monitor : Cls K C_Monitor
  g_Monitor : mg "Monitor" = some (.ref C_Monitor)
  mk_Monitor : Mk K C_Monitor f_init
  n__asked : NoAttr K C_Monitor "_asked"
  n__counts : NoAttr K C_Monitor "_counts"
  n__earlier : NoAttr K C_Monitor "_earlier"
  n__moment : NoAttr K C_Monitor "_moment"
  n__rules : NoAttr K C_Monitor "_rules"
  p_rules : Addr
  Pr_rules : PropOf K C_Monitor "rules" p_rules f_rules
  p_moment : Addr
  Pr_moment : PropOf K C_Monitor "moment" p_moment f_moment
  p_counts : Addr
  Pr_counts : PropOf K C_Monitor "counts" p_counts f_counts
  p_asked : Addr
  Pr_asked : PropOf K C_Monitor "asked" p_asked f_asked
  M__check : Meth K C_Monitor "_check" f__check
  M__counts_then : Meth K C_Monitor "_counts_then" f__counts_then
  M__asked_then : Meth K C_Monitor "_asked_then" f__asked_then
  M_lets : Meth K C_Monitor "lets" f_lets
  M_ask : Meth K C_Monitor "ask" f_ask
  M_soonest : Meth K C_Monitor "soonest" f_soonest
  M_undo : Meth K C_Monitor "undo" f_undo
  t_MOST_ASKS : Tok
  g_MOST_ASKS : mg "MOST_ASKS" = some (.int 6 t_MOST_ASKS)
  t_WIDEST : Tok
  g_WIDEST : mg "WIDEST" = some (.int 12 t_WIDEST)
  t_MOST_PAIRS : Tok
  g_MOST_PAIRS : mg "MOST_PAIRS" = some (.int 4 t_MOST_PAIRS)
  t_MOST_MOMENTS : Tok
  g_MOST_MOMENTS : mg "MOST_MOMENTS" = some (.int 100 t_MOST_MOMENTS)
  abs : mg "abs" = none
  all : mg "all" = none
  bool : mg "bool" = none
  divmod : mg "divmod" = none
  int : mg "int" = none
  isinstance : mg "isinstance" = none
  len : mg "len" = none
  list : mg "list" = none
  max : mg "max" = none
  min : mg "min" = none
  property : mg "property" = none
  range : mg "range" = none
  repr : mg "repr" = none
  sum : mg "sum" = none
  tuple : mg "tuple" = none
namespace D
variable {K : PySem.W.Frag} {mg : Str → Option Value} (T : D K mg)
theorem b_opens : Binds K T.d_opens ["hours", "moment"] [] := T.U_opens.binds fun _ _ _ _ _ _ us hl => match us, hl with | [_, _], _ => rfl
theorem b_next_open : Binds K T.d_next_open ["hours", "moment"] [] := T.U_next_open.binds fun _ _ _ _ _ _ us hl => match us, hl with | [_, _], _ => rfl
theorem b_next_ask : Binds K T.d_next_ask ["rules", "asks", "since"] [] := T.U_next_ask.binds fun _ _ _ _ _ _ us hl => match us, hl with | [_, _, _], _ => rfl
theorem b_soonest_asks : Binds K T.d_soonest_asks ["rules", "asks", "many", "since"] [] := T.U_soonest_asks.binds fun _ _ _ _ _ _ us hl => match us, hl with | [_, _, _, _], _ => rfl
theorem b_is_whole : Binds K T.d_is_whole ["value"] [] := T.U_is_whole.binds fun _ _ _ _ _ _ us hl => match us, hl with | [_], _ => rfl
theorem b_is_between : Binds K T.d_is_between ["value", "low", "high"] [] := T.U_is_between.binds fun _ _ _ _ _ _ us hl => match us, hl with | [_, _, _], _ => rfl
theorem b_is_tuple : Binds K T.d_is_tuple ["value", "low", "high"] [] := T.U_is_tuple.binds fun _ _ _ _ _ _ us hl => match us, hl with | [_, _, _], _ => rfl
theorem b_check_from : Binds K T.d_check_from ["given", "low"] [] := T.U_check_from.binds fun _ _ _ _ _ _ us hl => match us, hl with | [_, _], _ => rfl
theorem b_check_between : Binds K T.d_check_between ["given", "low", "high"] [] := T.U_check_between.binds fun _ _ _ _ _ _ us hl => match us, hl with | [_, _, _], _ => rfl
theorem b_is_limit : Binds K T.d_is_limit ["value"] [] := T.U_is_limit.binds fun _ _ _ _ _ _ us hl => match us, hl with | [_], _ => rfl
theorem U_are_limits : Fun K "are_limits" "are_limits" s_are_limits T.f_are_limits T.d_are_limits := T.V_are_limits.fun
theorem b_are_limits : Binds K T.d_are_limits ["value"] [] := T.U_are_limits.binds fun _ _ _ _ _ _ us hl => match us, hl with | [_], _ => rfl
theorem U_are_hours : Fun K "are_hours" "are_hours" s_are_hours T.f_are_hours T.d_are_hours := T.V_are_hours.fun
theorem b_are_hours : Binds K T.d_are_hours ["value"] [] := T.U_are_hours.binds fun _ _ _ _ _ _ us hl => match us, hl with | [_], _ => rfl
theorem b_are_rules : Binds K T.d_are_rules ["value"] [] := T.U_are_rules.binds fun _ _ _ _ _ _ us hl => match us, hl with | [_], _ => rfl
theorem b_check_rules : Binds K T.d_check_rules ["given"] [] := T.U_check_rules.binds fun _ _ _ _ _ _ us hl => match us, hl with | [_], _ => rfl
theorem b_check_amount : Binds K T.d_check_amount ["given"] [] := T.U_check_amount.binds fun _ _ _ _ _ _ us hl => match us, hl with | [_], _ => rfl
theorem b_span_of : Binds K T.d_span_of ["limits"] [] := T.U_span_of.binds fun _ _ _ _ _ _ us hl => match us, hl with | [_], _ => rfl
theorem b_room : Binds K T.d_room ["rules", "moment", "counts"] [] := T.U_room.binds fun _ _ _ _ _ _ us hl => match us, hl with | [_, _, _], _ => rfl
theorem b_has_room : Binds K T.d_has_room ["rules", "moment", "counts", "many"] [] := T.U_has_room.binds fun _ _ _ _ _ _ us hl => match us, hl with | [_, _, _, _], _ => rfl
theorem b_shifted : Binds K T.d_shifted ["counts", "many", "moments"] [] := T.U_shifted.binds fun _ _ _ _ _ _ us hl => match us, hl with | [_, _, _], _ => rfl
theorem b1_init : ∃ ds, Vals [V.int 0] ds ∧ Binds K T.d_init ["self", "rules", "moment"] ds :=
  T.W_init.binds0 2 (by decide) rfl fun D doc pm an cdv ct us ks h1 h2 => match us, ks, h1, h2 with
    | [_, _], [_], _, _ => ⟨_, _, _, _, _, _, rfl, rfl, rfl⟩
theorem b_rules : Binds K T.d_rules ["self"] [] := T.U_rules.binds fun _ _ _ _ _ _ us hl => match us, hl with | [_], _ => rfl
theorem b_moment : Binds K T.d_moment ["self"] [] := T.U_moment.binds fun _ _ _ _ _ _ us hl => match us, hl with | [_], _ => rfl
theorem b_counts : Binds K T.d_counts ["self"] [] := T.U_counts.binds fun _ _ _ _ _ _ us hl => match us, hl with | [_], _ => rfl
theorem b_asked : Binds K T.d_asked ["self"] [] := T.U_asked.binds fun _ _ _ _ _ _ us hl => match us, hl with | [_], _ => rfl
theorem b__check : Binds K T.d__check ["self", "moment", "many"] [] := T.U__check.binds fun _ _ _ _ _ _ us hl => match us, hl with | [_, _, _], _ => rfl
theorem b__counts_then : Binds K T.d__counts_then ["self", "moment"] [] := T.U__counts_then.binds fun _ _ _ _ _ _ us hl => match us, hl with | [_, _], _ => rfl
theorem b__asked_then : Binds K T.d__asked_then ["self", "moment"] [] := T.U__asked_then.binds fun _ _ _ _ _ _ us hl => match us, hl with | [_, _], _ => rfl
theorem b_lets : Binds K T.d_lets ["self", "moment", "many"] [] := by
  obtain ⟨ds, r, b⟩ := T.W_lets.binds1 (ps := ["self", "moment", "many"]) 3 1 (by decide) rfl fun T kV doc pm an cdv ct us its h1 h2 => match us, its, h1, h2 with
    | [_, _, _], [_], _, _ => ⟨_, rfl, rfl⟩
  cases r
  exact b
theorem b1_lets : ∃ ds, Vals [V.int 1] ds ∧ Binds K T.d_lets ["self", "moment", "many"] ds :=
  T.W_lets.binds1 2 0 (by decide) rfl fun T kV doc pm an cdv ct us its h1 h2 => match us, its, h1, h2 with
    | [_, _], [_], _, _ => ⟨_, rfl, rfl⟩
theorem b_ask : Binds K T.d_ask ["self", "moment", "many"] [] := by
  obtain ⟨ds, r, b⟩ := T.W_ask.binds1 (ps := ["self", "moment", "many"]) 3 1 (by decide) rfl fun T kV doc pm an cdv ct us its h1 h2 => match us, its, h1, h2 with
    | [_, _, _], [_], _, _ => ⟨_, rfl, rfl⟩
  cases r
  exact b
theorem b1_ask : ∃ ds, Vals [V.int 1] ds ∧ Binds K T.d_ask ["self", "moment", "many"] ds :=
  T.W_ask.binds1 2 0 (by decide) rfl fun T kV doc pm an cdv ct us its h1 h2 => match us, its, h1, h2 with
    | [_, _], [_], _, _ => ⟨_, rfl, rfl⟩
theorem b_soonest : Binds K T.d_soonest ["self", "many"] [] := by
  obtain ⟨ds, r, b⟩ := T.W_soonest.binds1 (ps := ["self", "many"]) 2 1 (by decide) rfl fun T kV doc pm an cdv ct us its h1 h2 => match us, its, h1, h2 with
    | [_, _], [_], _, _ => ⟨_, rfl, rfl⟩
  cases r
  exact b
theorem b1_soonest : ∃ ds, Vals [V.int 1] ds ∧ Binds K T.d_soonest ["self", "many"] ds :=
  T.W_soonest.binds1 1 0 (by decide) rfl fun T kV doc pm an cdv ct us its h1 h2 => match us, its, h1, h2 with
    | [_], [_], _, _ => ⟨_, rfl, rfl⟩
theorem b_undo : Binds K T.d_undo ["self"] [] := T.U_undo.binds fun _ _ _ _ _ _ us hl => match us, hl with | [_], _ => rfl
theorem b_l_well : Binds K T.d_l_well ["_law_script", "_law_turn"] [] := T.U_l_well.binds fun _ _ _ _ _ _ us hl => match us, hl with | [_, _], _ => rfl
theorem b_l_pick : Binds K T.d_l_pick ["_law_well_here", "_law_top"] [] := T.U_l_pick.binds fun _ _ _ _ _ _ us hl => match us, hl with | [_, _], _ => rfl
theorem b_l_one : Binds K T.d_l_one ["_law_well_here", "_law_some"] [] := T.U_l_one.binds fun _ _ _ _ _ _ us hl => match us, hl with | [_, _], _ => rfl
theorem b_l_open : Binds K T.d_l_open ["_law_clock", "_law_time"] [] := T.U_l_open.binds fun _ _ _ _ _ _ us hl => match us, hl with | [_, _], _ => rfl
theorem b_l_may : Binds K T.d_l_may ["_law_pairs", "_law_clock", "_law_row", "_law_time", "_law_number"] [] := T.U_l_may.binds fun _ _ _ _ _ _ us hl => match us, hl with | [_, _, _, _, _], _ => rfl
theorem b_l_soonest : Binds K T.d_l_soonest ["_law_pairs", "_law_clock", "_law_row", "_law_number", "_law_start"] [] := T.U_l_soonest.binds fun _ _ _ _ _ _ us hl => match us, hl with | [_, _, _, _, _], _ => rfl
theorem b_l_some_limits : Binds K T.d_l_some_limits ["_law_well_here", "_law_top", "_law_width"] [] := T.U_l_some_limits.binds fun _ _ _ _ _ _ us hl => match us, hl with | [_, _, _], _ => rfl
theorem b_l_some_hours : Binds K T.d_l_some_hours ["_law_well_here", "_law_top"] [] := T.U_l_some_hours.binds fun _ _ _ _ _ _ us hl => match us, hl with | [_, _], _ => rfl
theorem b_l_asked : Binds K T.d_l_asked ["_law_monitor", "_law_time", "_law_number"] [] := T.U_l_asked.binds fun _ _ _ _ _ _ us hl => match us, hl with | [_, _, _], _ => rfl
theorem b_l_state_right : Binds K T.d_l_state_right ["_law_monitor", "_law_pairs", "_law_clock", "_law_state"] [] := T.U_l_state_right.binds fun _ _ _ _ _ _ us hl => match us, hl with | [_, _, _, _], _ => rfl
theorem b_l_deed_right : Binds K T.d_l_deed_right ["_law_well_here", "_law_monitor", "_law_pairs", "_law_clock", "_law_states"] [] := T.U_l_deed_right.binds fun _ _ _ _ _ _ us hl => match us, hl with | [_, _, _, _, _], _ => rfl
theorem b_law : Binds K T.d_law ["_law_script"] [] := T.U_law.binds fun _ _ _ _ _ _ us hl => match us, hl with | [_], _ => rfl
end D
end KP

set_option Elab.async false
set_option maxRecDepth 100000
set_option maxHeartbeats 4000000
set_option linter.all false
/-! Ours: asks that keep apart. -/
namespace KP
open PySem PySem.Spec PyProof.Rows L2 Gr GxR
def inD (q : Int × Int) : PyData × PyData := (.int q.1, .int q.2)
/-- the look at one pair: fewer asks than it counts, or the one so many back is far enough -/
def apI (ns : List Int) (t : Int) (q : Int × Int) : Bool := decide (((ns.length : Nat) : Int) < q.1) || (match atI ns (-q.1) with
  | some x => decide (q.2 ≤ t - x)
  | none => false)
def numsD : List PyData → List Int
  | [] => []
  | .int n :: l => n :: numsD l
  | _ :: l => 0 :: numsD l
theorem nums_ints : ∀ ns : List Int, numsD (ns.map PyData.int) = ns
  | [] => rfl
  | n :: l => congrArg (n :: ·) (nums_ints l)
def apartB : List PyData → PyData × PyData → Bool
  | [.tuple as, .int t], (.int mo, .int wi) => apI (numsD as) t (mo, wi)
  | _, _ => false
def domA (fd : List PyData) (q : PyData × PyData) : Prop := ∃ (ns : List Int) (t : Int) (p : Int × Int), fd = [.tuple (ns.map PyData.int), .int t] ∧ q = inD p ∧ 1 ≤ p.1
def spApart (L : List Addr) : Sp := fun vs H Q _ => ∃ (lv av : V) (t : Int) (ps : List (Int × Int)) (ns : List Int), vs = [lv, av, .int t] ∧ Od H lv (.tuple ((ps.map inD).map tw)) ∧ (∀ p ∈ ps, 1 ≤ p.1) ∧ Od H av (.tuple (ns.map PyData.int)) ∧ Tb L H ∧ ∀ H', UpL L H H' → Q (.bl (ps.all (apI ns t))) H'
section
variable {P : Program} {w : World} {K : PySem.W.Frag} {mg : Str → Option Value} {base : Heap}
theorem atI_map {ns : List Int} {i x : Int} (h : atI ns i = some x) : atI (ns.map PyData.int) i = some (.int x) := by
  unfold atI at h ⊢
  rw [List.length_map]
  cases e : ixN ns.length i with
  | none => rw [e] at h; cases h
  | some j =>
    rw [e] at h
    have h : ns[j]? = some x := h
    show (ns.map PyData.int)[j]? = _
    rw [List.getElem?_map, h]
    rfl
theorem atI_some {ns : List Int} {m : Int} (h1 : 1 ≤ m) (h2 : ¬ ((ns.length : Nat) : Int) < m) : ∃ x, atI ns (-m) = some x := by
  unfold atI ixN
  rw [if_neg (by omega), if_pos (by omega)]
  have hj : (-m + ((ns.length : Nat) : Int)).toNat < ns.length := by omega
  exact ⟨ns[(-m + ((ns.length : Nat) : Int)).toNat], List.getElem?_eq_getElem hj⟩
end
end KP

set_option Elab.async false
set_option maxRecDepth 100000
set_option maxHeartbeats 4000000
set_option linter.all false
/-! Ours: quiet defs: whole numbers, bounds, rows, pairs of limits. -/
namespace KP
open PySem PySem.Spec PyProof.Rows L2 Gr GxR
def limD : PyData → Bool
  | .tuple [a, b] => betwD a 1 6 && betwD b 1 12
  | _ => false
theorem QF.mono {P : Program} {w : World} {K : PySem.W.Frag} {mg : Str → Option Value} {base : Heap} {j k : Nat} {f : Addr} {fd : FuncData} {ps : List Str} {pre : List PyData → PyData → Prop} (F : QF P w K mg base j f fd ps pre) (h : j ≤ k) : QF P w K mg base k f fd ps pre :=
  ⟨F.len, fun B z args us ds d hr => F.run B z args us ds d (hr.mono h)⟩
section
variable {P : Program} {w : World} {K : PySem.W.Frag} {mg : Str → Option Value} {base : Heap}
theorem sc_whole : FnScope ["value"] ["value"] (defScope s_is_whole) := ⟨rfl, rfl, rfl, by decide +kernel, rfl, by decide +kernel, by decide +kernel⟩
theorem qf_whole (M : Mod K mg base) (T : D K mg) : QF P w K mg base 1 T.f_is_whole T.d_is_whole ["value"] (fun ds d => ∃ x, ds = [x] ∧ d = .bool (wholeD x)) := by
  refine qf_of M T.U_is_whole sc_whole (by decide +kernel) (by with_unfolding_all rfl) (fun ds d h => ?_) (fun env m h0 us ds d hsc C hm hv h => ?_)
  · obtain ⟨x, rfl, _⟩ := h
    rfl
  · obtain ⟨x, rfl, rfl⟩ := h
    match us, hv with
    | [u], .cons r .nil =>
      have n0 := hm 0 "value" u rfl rfl
      have e : (x.isInt && !x.isBool) = wholeD x := by cases x <;> rfl
      rw [← e]
      exact qe_and (qe_isi C (qe_name C (by rw [hsc]; decide +kernel) n0 r) (by rw [hsc]; decide +kernel) T.isinstance (by rw [hsc]; decide +kernel) T.int (by decide +kernel) (by decide) (by decide) (fun r h => PySem.W.isinstance_int_data r h))
        (fun _ => qe_one (qe_not (qe_isi C (qe_name C (by rw [hsc]; decide +kernel) n0 r) (by rw [hsc]; decide +kernel) T.isinstance (by rw [hsc]; decide +kernel) T.bool (by decide +kernel) (by decide) (by decide) (fun r h => PySem.W.isinstance_bool_data r h))))
theorem sc_betw : FnScope ["value", "low", "high"] ["value", "low", "high"] (defScope s_is_between) := ⟨rfl, rfl, rfl, by decide +kernel, rfl, by decide +kernel, by decide +kernel⟩
theorem qf_betw (M : Mod K mg base) (T : D K mg) : QF P w K mg base 2 T.f_is_between T.d_is_between ["value", "low", "high"] (fun ds d => ∃ x lo hi, ds = [x, .int lo, .int hi] ∧ d = .bool (betwD x lo hi)) := by
  refine qf_of M T.U_is_between sc_betw (by decide +kernel) (by with_unfolding_all rfl) (fun ds d h => ?_) (fun env m h0 us ds d hsc C hm hv h => ?_)
  · obtain ⟨x, lo, hi, rfl, _⟩ := h
    rfl
  · obtain ⟨x, lo, hi, rfl, rfl⟩ := h
    match us, hv with
    | [u, a, b], .cons r (.cons ra (.cons rb .nil)) =>
      have n0 := hm 0 "value" u rfl rfl
      have n1 := hm 1 "low" a rfl rfl
      have n2 := hm 2 "high" b rfl rfl
      have e : (wholeD x && betwD x lo hi) = betwD x lo hi := by cases x <;> rfl
      rw [← e]
      refine qe_and (qe_call C (qf_whole M T) (by rw [hsc]; decide +kernel) T.g_is_whole T.U_is_whole.kp T.b_is_whole (qes_cons (qe_name C (by rw [hsc]; decide +kernel) n0 r) qes_nil) ⟨x, rfl, rfl⟩) (fun hw => qe_one ?_)
      cases x with
      | int n => exact qe_chain (qe_name C (by rw [hsc]; decide +kernel) n1 ra) (qe_name C (by rw [hsc]; decide +kernel) n0 r) (qe_name C (by rw [hsc]; decide +kernel) n2 rb) (f := fun i j => decide (i ≤ j)) (g := fun i j => decide (i ≤ j)) (fun q => le_int q) (fun q => le_int q)
      | _ => cases hw
theorem sc_row : FnScope ["value", "low", "high"] ["value", "low", "high"] (defScope s_is_tuple) := ⟨rfl, rfl, rfl, by decide +kernel, rfl, by decide +kernel, by decide +kernel⟩
theorem qf_row (M : Mod K mg base) (T : D K mg) : QF P w K mg base 1 T.f_is_tuple T.d_is_tuple ["value", "low", "high"] (fun ds d => ∃ x lo hi, ds = [x, .int lo, .int hi] ∧ szD x ∧ d = .bool (rowD x lo hi)) := by
  refine qf_of M T.U_is_tuple sc_row (by decide +kernel) (by with_unfolding_all rfl) (fun ds d h => ?_) (fun env m h0 us ds d hsc C hm hv h => ?_)
  · obtain ⟨x, lo, hi, rfl, _⟩ := h
    rfl
  · obtain ⟨x, lo, hi, rfl, sz, rfl⟩ := h
    match us, hv with
    | [u, a, b], .cons r (.cons ra (.cons rb .nil)) =>
      have n0 := hm 0 "value" u rfl rfl
      have n1 := hm 1 "low" a rfl rfl
      have n2 := hm 2 "high" b rfl rfl
      have e : (x.isTuple && rowD x lo hi) = rowD x lo hi := by cases x <;> rfl
      rw [← e]
      refine qe_and (qe_isi C (qe_name C (by rw [hsc]; decide +kernel) n0 r) (by rw [hsc]; decide +kernel) T.isinstance (by rw [hsc]; decide +kernel) T.tuple (by decide +kernel) (by decide) (by decide) (fun r h => PySem.W.isinstance_tuple_data r h)) (fun hw => qe_one ?_)
      cases x with
      | tuple es => exact qe_chain (qe_name C (by rw [hsc]; decide +kernel) n1 ra) (qe_len C (qe_name C (by rw [hsc]; decide +kernel) n0 r) (by rw [hsc]; decide +kernel) T.len sz) (qe_name C (by rw [hsc]; decide +kernel) n2 rb) (f := fun i j => decide (i ≤ j)) (g := fun i j => decide (i ≤ j)) (fun q => le_int q) (fun q => le_int q)
      | _ => cases hw
theorem lim_row (x : PyData) : (rowD x 2 2 && limD x) = limD x := by
  cases x with
  | tuple l =>
    match l with
    | [] => rfl
    | [_] => rfl
    | [a, b] => show (true && _) = _; rfl
    | _ :: _ :: _ :: _ => show (_ && false) = false; rw [Bool.and_false]
  | _ => rfl
theorem row2 {x : PyData} (h : rowD x 2 2 = true) : ∃ a b, x = .tuple [a, b] := by
  cases x with
  | tuple l =>
    have h : (decide (2 ≤ ((l.length : Nat) : Int)) && decide (((l.length : Nat) : Int) ≤ 2)) = true := h
    simp only [Bool.and_eq_true, decide_eq_true_eq] at h
    match l, h with
    | [], h => simp at h
    | [_], h => simp at h
    | [a, b], _ => exact ⟨a, b, rfl⟩
    | _ :: _ :: _ :: _, h => simp at h; omega
  | _ => cases h
theorem sc_limit : FnScope ["value"] ["value"] (defScope s_is_limit) := ⟨rfl, rfl, rfl, by decide +kernel, rfl, by decide +kernel, by decide +kernel⟩
theorem qf_limit (M : Mod K mg base) (T : D K mg) : QF P w K mg base 3 T.f_is_limit T.d_is_limit ["value"] (fun ds d => ∃ x, ds = [x] ∧ szD x ∧ d = .bool (limD x)) := by
  refine qf_of M T.U_is_limit sc_limit (by decide +kernel) (by with_unfolding_all rfl) (fun ds d h => ?_) (fun env m h0 us ds d hsc C hm hv h => ?_)
  · obtain ⟨x, rfl, _⟩ := h
    rfl
  · obtain ⟨x, rfl, sz, rfl⟩ := h
    match us, hv with
    | [u], .cons r .nil =>
      have n0 := hm 0 "value" u rfl rfl
      have mz : 5000 ≤ sizeLine := by decide
      rw [← lim_row x]
      refine qe_and (qe_call C (QF.mono (qf_row M T) (by decide)) (by rw [hsc]; decide +kernel) T.g_is_tuple T.U_is_tuple.kp T.b_is_tuple (qes_cons (qe_name C (by rw [hsc]; decide +kernel) n0 r) (qes_cons qe_int (qes_cons qe_int qes_nil))) ⟨x, _, _, rfl, sz, rfl⟩) (fun hw => ?_)
      obtain ⟨a, b, rfl⟩ := row2 hw
      exact qe_and (qe_call C (qf_betw M T) (by rw [hsc]; decide +kernel) T.g_is_between T.U_is_between.kp T.b_is_between (qes_cons (qe_ix (ds := [a, b]) (i := 0) (qe_name C (by rw [hsc]; decide +kernel) n0 r) rfl (by show 2 ≤ sizeLine; omega)) (qes_cons qe_int (qes_cons (qe_gint C (by rw [hsc]; decide +kernel) T.g_MOST_ASKS) qes_nil))) ⟨a, _, _, rfl, rfl⟩)
        (fun _ => qe_one (qe_call C (qf_betw M T) (by rw [hsc]; decide +kernel) T.g_is_between T.U_is_between.kp T.b_is_between (qes_cons (qe_ix (ds := [a, b]) (i := 1) (qe_name C (by rw [hsc]; decide +kernel) n0 r) rfl (by show 2 ≤ sizeLine; omega)) (qes_cons qe_int (qes_cons (qe_gint C (by rw [hsc]; decide +kernel) T.g_WIDEST) qes_nil))) ⟨b, _, _, rfl, rfl⟩))
end
end KP

set_option Elab.async false
set_option maxRecDepth 100000
set_option maxHeartbeats 4000000
set_option linter.all false
/-! Ours: limits, hours, rules of values of any kind. -/
namespace KP
open PySem PySem.Spec PyProof.Rows L2 Gr GxR
theorem gens_mk {env : Env} {scope : Scope} {x : Str} (h1 : scope.kind = .function) (h2 : scope.isCoroutine = false) (h3 : ∀ y ∈ scope.names, y.2 ≠ .cell) (h4 : scope.names.lookup (".0" : Str) = some NameKind.local) (h5 : scope.names.lookup x = some .local)
    (h6 : ∀ y ∈ scope.names, y.2 ≠ .free) : GenS env scope x := ⟨h1, h2, h3, h4, h5, fun y hy e => absurd e (h6 y hy)⟩
structure Tabs {K : PySem.W.Frag} {mg : Str → Option Value} (base : Heap) (T : D K mg) : Prop where
  a : TabB base mg T.c_are_limits T.P_are_limits
  b : TabB base mg T.c_are_hours T.P_are_hours
def tabs {K : PySem.W.Frag} {mg : Str → Option Value} (T : D K mg) : List Addr := [T.P_are_limits, T.P_are_hours]
def elems : PyData → List PyData
  | .tuple l => l
  | _ => []
def limsD (d : PyData) : Bool := rowD d 0 4 && (elems d).all limD
def hoursD (d : PyData) : Bool := rowD d 1 12 && ((elems d).all (fun x => betwD x 0 1) && hasOne 1 (elems d))
def rulesD : PyData → Bool
  | .tuple [a, b] => limsD a && hoursD b
  | _ => false
def anyD : PyData → Prop := fun _ => True
section
variable {P : Program} {w : World} {K : PySem.W.Frag} {mg : Str → Option Value} {base : Heap}
theorem ok_whole (T : D K mg) : FnOk P w K mg base CX0 1 T.f_is_whole T.d_is_whole ["value"] spWhole := by
  refine T.U_is_whole.ok sc_whole (fun vs H Q E h => ?_) (fun cdv A outer s H vs Q E hr h => ?_)
  · obtain ⟨v, d, rfl, _⟩ := h
    rfl
  · obtain ⟨v, d, rfl, hd, k⟩ := h
    have nd := sc_whole.nd
    refine ⟨_, pss_one (ps_ret (pe_and (pe_callB call_isi (by rfl) T.isinstance (by decide +kernel) (pa_cons (pv 0) (pa_cons (pe_bltn (v := .ty "int") (by rfl) T.int (by decide +kernel) rfl) pa_nil))) (pe_one (pe_not (pe_callB call_isi (by rfl) T.isinstance (by decide +kernel) (pa_cons (pv 0) (pa_cons (pe_bltn (v := .ty "bool") (by rfl) T.bool (by decide +kernel) rfl) pa_nil))))))), ?_⟩
    refine and_pure (isIntD d) (!isBoolD d) (fun Q' q' => ⟨_, rfl, _, _, _, _, _, rfl, .ty _, hd.ty, kInt d, q'⟩) (fun _ Q' q' => ⟨_, rfl, _, _, _, _, _, rfl, .ty _, hd.ty, kBool d, ?_⟩) ?_
    · exact ⟨_, rfl, q'⟩
    · have e : (isIntD d && !isBoolD d) = wholeD d := by cases d <;> rfl
      rw [e]
      exact k
theorem ok_betw (T : D K mg) : FnOk P w K mg base CX0 2 T.f_is_between T.d_is_between ["value", "low", "high"] spBetw := by
  refine T.U_is_between.ok sc_betw (fun vs H Q E h => ?_) (fun cdv A outer s H vs Q E hr h => ?_)
  · obtain ⟨v, d, lo, hi, rfl, _⟩ := h
    rfl
  · obtain ⟨v, d, lo, hi, rfl, hd, k⟩ := h
    refine ⟨_, pss_one (ps_ret (pe_and (pe_call (ok_whole T) hr rfl T.g_is_whole T.U_is_whole.kp T.b_is_whole .nil pass0 (pa_cons (pv 0) pa_nil)) (pe_one (pe_chain op_le op_le (pv 1) (pv 0) (pv 2))))), ?_⟩
    refine and_pure (wholeD d) (betwD d lo hi) (fun Q' q' => ⟨_, rfl, _, _, rfl, hd, q'⟩) (fun hw Q' q' => ?_) ?_
    · cases hd with
      | int n =>
        refine ⟨_, rfl, _, rfl, _, _, rfl, rfl, _, rfl, ite2 (fun h1 => ⟨_, rfl, _, _, rfl, rfl, ?_⟩) (fun h1 => ?_)⟩
        · have e : betwD (.int n) lo hi = decide (n ≤ hi) := by
            show (decide (lo ≤ n) && decide (n ≤ hi)) = _
            rw [h1, Bool.true_and]
          rw [e] at q'
          exact q'
        · have e : betwD (.int n) lo hi = false := by
            show (decide (lo ≤ n) && decide (n ≤ hi)) = _
            rw [Bool.eq_false_iff.mpr h1, Bool.false_and]
          rw [e] at q'
          exact q'
      | _ => cases hw
    · have e : (wholeD d && betwD d lo hi) = betwD d lo hi := by cases d <;> rfl
      rw [e]
      exact k
theorem ok_row (T : D K mg) : FnOk P w K mg base CX0 1 T.f_is_tuple T.d_is_tuple ["value", "low", "high"] spRow := by
  refine T.U_is_tuple.ok sc_row (fun vs H Q E h => ?_) (fun cdv A outer s H vs Q E hr h => ?_)
  · obtain ⟨v, d, lo, hi, rfl, _⟩ := h
    rfl
  · obtain ⟨v, d, lo, hi, rfl, hd, k⟩ := h
    refine ⟨_, pss_one (ps_ret (pe_and (pe_callB call_isi (by rfl) T.isinstance (by decide +kernel) (pa_cons (pv 0) (pa_cons (pe_bltn (v := .ty "tuple") (by rfl) T.tuple (by decide +kernel) rfl) pa_nil))) (pe_one (pe_chain op_le op_le (pv 1) (pe_callB call_len_seq (by rfl) T.len PySem.boot_len (pa_cons (pv 0) pa_nil)) (pv 2))))), ?_⟩
    refine and_pure (isTupD d) (rowD d lo hi) (fun Q' q' => ⟨_, rfl, _, _, _, _, _, rfl, .ty _, hd.ty, kTup d, q'⟩) (fun hw Q' q' => ?_) ?_
    · cases hd with
      | tup e a =>
        rename_i ad xs ds
        have el := a.len
        refine ⟨_, rfl, _, rfl, ad, _, rfl, .inr (SqT.of e), _, _, rfl, rfl, _, rfl, ite2 (fun h1 => ⟨_, rfl, _, _, rfl, rfl, ?_⟩) (fun h1 => ?_)⟩
        · have e : rowD (.tuple ds) lo hi = decide (((xs.length : Nat) : Int) ≤ hi) := by
            show (decide (lo ≤ (ds.length : Nat)) && decide (((ds.length : Nat) : Int) ≤ hi)) = _
            rw [← el, h1, Bool.true_and]
          rw [e] at q'
          exact q'
        · have e : rowD (.tuple ds) lo hi = false := by
            show (decide (lo ≤ (ds.length : Nat)) && decide (((ds.length : Nat) : Int) ≤ hi)) = _
            rw [← el, Bool.eq_false_iff.mpr h1, Bool.false_and]
          rw [e] at q'
          exact q'
      | _ => cases hw
    · have e : (isTupD d && rowD d lo hi) = rowD d lo hi := by cases d <;> rfl
      rw [e]
      exact k
end

theorem OdAll.ints {H : Hp} : ∀ {xs : List V} {ds : List PyData}, OdAll H xs ds → (∀ d ∈ ds, wholeD d = true) → ∃ ns : List Int, xs = ns.map V.int ∧ ds = ns.map PyData.int
  | _, _, .nil, _ => ⟨[], rfl, rfl⟩
  | _, _, .cons a b, h => by
    obtain ⟨ns, e1, e2⟩ := OdAll.ints b fun d hd => h d (List.mem_cons_of_mem _ hd)
    cases a with
    | int i => exact ⟨i :: ns, by rw [e1]; rfl, by rw [e2]; rfl⟩
    | non => cases h _ List.mem_cons_self
    | bl _ => cases h _ List.mem_cons_self
    | str _ => cases h _ List.mem_cons_self
    | lst _ _ => cases h _ List.mem_cons_self
    | tup _ _ => cases h _ List.mem_cons_self
    | dic _ _ _ => cases h _ List.mem_cons_self
theorem ints_flat (ns : List Int) : (ns.map V.int).all flatV = true := by
  induction ns with
  | nil => rfl
  | cons n l ih => rw [List.map_cons, List.all_cons, ih]; rfl
theorem ints_in (i : Int) (ns : List Int) : inV (.int i) (ns.map V.int) = hasOne i (ns.map PyData.int) := by
  induction ns with
  | nil => rfl
  | cons n l ih =>
    unfold inV at ih ⊢
    rw [List.map_cons, List.any_cons, ih]
    rfl
theorem betw_whole {d : PyData} {lo hi : Int} (h : betwD d lo hi = true) : wholeD d = true := by
  cases d <;> first | rfl | cases h
theorem row_tup {d : PyData} {lo hi : Int} (h : rowD d lo hi = true) : ∃ ds, d = .tuple ds ∧ lo ≤ (ds.length : Nat) ∧ ((ds.length : Nat) : Int) ≤ hi := by
  cases d with
  | tuple ds =>
    have h : (decide (lo ≤ (ds.length : Nat)) && decide (((ds.length : Nat) : Int) ≤ hi)) = true := h
    rw [Bool.and_eq_true, decide_eq_true_eq, decide_eq_true_eq] at h
    exact ⟨ds, rfl, h⟩
  | _ => cases h
theorem od_tup {H : Hp} {v : V} {ds : List PyData} (h : Od H v (.tuple ds)) : ∃ a xs, v = .ref a ∧ H a = some (.tup xs) ∧ OdAll H xs ds := by
  cases h with
  | tup e o => exact ⟨_, _, rfl, e, o⟩
theorem OdAll.get {H : Hp} : ∀ {vs : List V} {ds : List PyData}, OdAll H vs ds → ∀ {i : Nat} {d : PyData}, ds[i]? = some d → ∃ v, vs[i]? = some v ∧ Od H v d
  | _, _, .nil, i, d, e => by cases e
  | _, _, .cons a b, 0, d, e => by cases e; exact ⟨_, rfl, a⟩
  | _, _, .cons a b, i + 1, d, e => OdAll.get b e
section
variable {P : Program} {w : World} {K : PySem.W.Frag} {mg : Str → Option Value} {base : Heap}
theorem sc_lims : FnScope ["value"] ["value"] (defScope s_are_limits) := ⟨rfl, rfl, rfl, by decide +kernel, rfl, by decide +kernel, by decide +kernel⟩
theorem ok_lims (T : D K mg) (TB : Tabs base T) : FnOk P w K mg base CX0 5 T.f_are_limits T.d_are_limits ["value"] (spD (tabs T) anyD limsD) := by
  refine T.V_are_limits.ok sc_lims (fun vs H Q E h => ?_) (fun A outer s H vs Q E hr h => ?_)
  · obtain ⟨v, d, rfl, _⟩ := h
    rfl
  · obtain ⟨v, d, rfl, hd, _, hT, k⟩ := h
    refine ⟨_, pss_one (ps_ret (pe_and (pe_call (ok_row T) (hr.mono (by decide)) rfl T.g_is_tuple T.U_is_tuple.kp T.b_is_tuple .nil pass0 (pa_cons (pv 0) (pa_cons pe_int (pa_cons (pe_glob (v := .int 4) rfl T.g_MOST_PAIRS ⟨_, rfl⟩) pa_nil))))
      (pe_one (pe_allD (pb := limD) (k := 3) hr (by rfl) T.all TB.a rfl (gens_mk rfl rfl (by decide +kernel) (by rfl) (by rfl) (by decide +kernel)) (pv 0)
        (fun en m h0 v d hsc C hm hv sz => qe_call C (qf_limit C.mod T) (by rw [hsc]; decide +kernel) T.g_is_limit T.U_is_limit.kp T.b_is_limit (qes_cons (qe_name C (by rw [hsc]; decide +kernel) hm hv) qes_nil) ⟨d, rfl, sz, rfl⟩) (fun _ => rfl))))), ?_⟩
    refine ⟨_, rfl, v, d, _, _, rfl, hd, _, rfl, ?_⟩
    cases hq : rowD d 0 4 with
    | false =>
      have q := k H (.refl hT)
      have e : limsD d = false := by unfold limsD; rw [hq]; rfl
      rw [e] at q
      exact iteF q
    | true =>
      obtain ⟨ds, rfl, _⟩ := row_tup hq
      refine iteT ⟨_, rfl, ds, hd.dq, hT _ (by simp [tabs]), fun H2 t2 => ?_⟩
      have q := k H2 (.tab hT t2 (by simp [tabs]))
      have e : limsD (.tuple ds) = ds.all limD := by unfold limsD; rw [hq]; rfl
      rw [e] at q
      exact q
theorem sc_hours : FnScope ["value"] ["value"] (defScope s_are_hours) := ⟨rfl, rfl, rfl, by decide +kernel, rfl, by decide +kernel, by decide +kernel⟩
theorem ok_hours (T : D K mg) (TB : Tabs base T) : FnOk P w K mg base CX0 5 T.f_are_hours T.d_are_hours ["value"] (spD (tabs T) anyD hoursD) := by
  refine T.V_are_hours.ok sc_hours (fun vs H Q E h => ?_) (fun A outer s H vs Q E hr h => ?_)
  · obtain ⟨v, d, rfl, _⟩ := h
    rfl
  · obtain ⟨v, d, rfl, hd, _, hT, k⟩ := h
    refine ⟨_, pss_one (ps_ret (pe_and (pe_call (ok_row T) (hr.mono (by decide)) rfl T.g_is_tuple T.U_is_tuple.kp T.b_is_tuple .nil pass0 (pa_cons (pv 0) (pa_cons pe_int (pa_cons (pe_glob (v := .int 12) rfl T.g_WIDEST ⟨_, rfl⟩) pa_nil))))
      (pe_and (pe_allD (pb := fun x => betwD x 0 1) (k := 3) hr (by rfl) T.all TB.b rfl (gens_mk rfl rfl (by decide +kernel) (by rfl) (by rfl) (by decide +kernel)) (pv 0)
        (fun en m h0 v d hsc C hm hv sz => qe_call C (QF.mono (qf_betw C.mod T) (by decide)) (by rw [hsc]; decide +kernel) T.g_is_between T.U_is_between.kp T.b_is_between (qes_cons (qe_name C (by rw [hsc]; decide +kernel) hm hv) (qes_cons qe_int (qes_cons qe_int qes_nil))) ⟨d, _, _, rfl, rfl⟩) (fun _ => rfl))
        (pe_one (pe_cmpR op_in_seq pe_int (pv 0) rfl))))), ?_⟩
    refine ⟨_, rfl, v, d, _, _, rfl, hd, _, rfl, ?_⟩
    cases hq : rowD d 1 12 with
    | false =>
      have q := k H (.refl hT)
      have e : hoursD d = false := by unfold hoursD; rw [hq]; rfl
      rw [e] at q
      exact iteF q
    | true =>
      obtain ⟨ds, rfl, _⟩ := row_tup hq
      have e : hoursD (.tuple ds) = (ds.all (fun x => betwD x 0 1) && hasOne 1 ds) := by unfold hoursD; rw [hq]; rfl
      refine iteT ⟨_, rfl, ds, hd.dq, hT _ (by simp [tabs]), fun H2 t2 => ⟨_, rfl, ?_⟩⟩
      have u2 : UpL (tabs T) H H2 := .tab hT t2 (by simp [tabs])
      have q := k H2 u2
      rw [e] at q
      cases ha : ds.all (fun x => betwD x 0 1) with
      | false =>
        rw [ha] at q
        exact iteF q
      | true =>
        rw [ha, Bool.true_and] at q
        have hd2 : Od H2 v (.tuple ds) := hd.stay (u2.stay hT)
        obtain ⟨a, xs, rfl, ea, oa⟩ := od_tup hd2
        obtain ⟨ns, rfl, rfl⟩ := OdAll.ints oa fun d hd => betw_whole (List.all_eq_true.mp ha d hd)
        rw [← ints_in] at q
        exact iteT ⟨_, rfl, a, _, rfl, .inr (SqT.of ea), rfl, ints_flat ns, q⟩
theorem sc_rules : FnScope ["value"] ["value"] (defScope s_are_rules) := ⟨rfl, rfl, rfl, by decide +kernel, rfl, by decide +kernel, by decide +kernel⟩
theorem rules_row (x : PyData) (h : rowD x 2 2 = false) : rulesD x = false := by
  cases x with
  | tuple l =>
    match l, h with
    | [], _ => rfl
    | [_], _ => rfl
    | [a, b], h => cases h
    | _ :: _ :: _ :: _, _ => rfl
  | _ => rfl
theorem ok_rules (T : D K mg) (TB : Tabs base T) : FnOk P w K mg base CX0 6 T.f_are_rules T.d_are_rules ["value"] (spD (tabs T) anyD rulesD) := by
  refine T.U_are_rules.ok sc_rules (fun vs H Q E h => ?_) (fun cdv A outer s H vs Q E hr h => ?_)
  · obtain ⟨v, d, rfl, _⟩ := h
    rfl
  · obtain ⟨v, d, rfl, hd, _, hT, k⟩ := h
    refine ⟨_, pss_one (ps_ret (pe_and (pe_call (ok_row T) (hr.mono (by decide)) rfl T.g_is_tuple T.U_is_tuple.kp T.b_is_tuple .nil pass0 (pa_cons (pv 0) (pa_cons pe_int (pa_cons pe_int pa_nil))))
      (pe_and (pe_call (ok_lims T TB) hr rfl T.g_are_limits T.U_are_limits.kp T.b_are_limits .nil pass0 (pa_cons (pe_ix ix_tup (pv 0) pe_int (fun _ _ => rfl)) pa_nil))
        (pe_one (pe_call (ok_hours T TB) hr rfl T.g_are_hours T.U_are_hours.kp T.b_are_hours .nil pass0 (pa_cons (pe_ix ix_tup (pv 0) pe_int (fun _ _ => rfl)) pa_nil)))))), ?_⟩
    refine ⟨_, rfl, v, d, _, _, rfl, hd, _, rfl, ?_⟩
    cases hq : rowD d 2 2 with
    | false =>
      have q := k H (.refl hT)
      rw [rules_row d hq] at q
      exact iteF q
    | true =>
      obtain ⟨x, y, rfl⟩ := row2 hq
      obtain ⟨a, xs, rfl, ea, oa⟩ := od_tup hd
      match xs, oa with
      | [vx, vy], .cons ox (.cons oy .nil) =>
        refine iteT ⟨_, rfl, a, [vx, vy], 0, vx, rfl, rfl, SqT.of ea, rfl, vx, x, rfl, ox, trivial, hT, fun H2 u2 => ⟨_, rfl, ?_⟩⟩
        have e : rulesD (.tuple [x, y]) = (limsD x && hoursD y) := rfl
        have s2 := u2.stay hT
        cases hx : limsD x with
        | false =>
          have q := k H2 u2
          rw [e, hx] at q
          exact iteF q
        | true =>
          refine iteT ⟨_, rfl, a, [vx, vy], 1, vy, rfl, rfl, SqT.of (s2 _ _ ea (fun _ z => nomatch z)), rfl, vy, y, rfl, oy.stay s2, trivial, u2.1, fun H3 u3 => ?_⟩
          have q := k H3 (u2.trans u3)
          rw [e, hx, Bool.true_and] at q
          exact q
/-- limits, or an error that never comes -/
def spChk (ps : List Addr) : Sp := fun vs H Q _ => ∃ v d, vs = [v] ∧ Od H v d ∧ limsD d = true ∧ Tb ps H ∧ ∀ H', UpL ps H H' → Q .non H'
end
end KP

set_option Elab.async false
set_option maxRecDepth 100000
set_option maxHeartbeats 4000000
set_option linter.all false
/-! Ours: open hours; the first wrong ask. -/
namespace KP
open PySem PySem.Spec PyProof.Rows L2 Gr GxR
def openI (hs : List Int) (t : Int) : Bool := hs[(t % ((hs.length : Nat) : Int)).toNat]? == some 1
def spOpens : Sp := fun vs H Q _ => ∃ (hv : V) (hs : List Int) (t : Int), vs = [hv, .int t] ∧ Od H hv (.tuple (hs.map PyData.int)) ∧ 0 < hs.length ∧ Q (.bl (openI hs t)) H
theorem od_nums {H : Hp} {xs : List V} {ns : List Int} (o : OdAll H xs (ns.map PyData.int)) : xs = ns.map V.int := by
  induction ns generalizing xs with
  | nil => cases o; rfl
  | cons n l ih =>
    cases o with
    | cons a b =>
      cases a
      rw [ih b]
      rfl
section
variable {P : Program} {w : World} {K : PySem.W.Frag} {mg : Str → Option Value} {base : Heap}
theorem sc_opens : FnScope ["hours", "moment"] ["hours", "moment"] (defScope s_opens) := ⟨rfl, rfl, rfl, by decide +kernel, rfl, by decide +kernel, by decide +kernel⟩
theorem ok_opens (T : D K mg) : FnOk P w K mg base CX0 1 T.f_opens T.d_opens ["hours", "moment"] spOpens := by
  refine T.U_opens.ok sc_opens (fun vs H Q E h => ?_) (fun cdv A outer s H vs Q E hr h => ?_)
  · obtain ⟨hv, hs, t, rfl, _⟩ := h
    rfl
  · obtain ⟨hv, hs, t, rfl, ho, h0, k⟩ := h
    have nd := sc_opens.nd
    obtain ⟨a, xs, rfl, ea, oa⟩ := od_tup ho
    have exs := od_nums oa
    subst exs
    refine ⟨_, pss_one (ps_ret (pe_cmpR op_eq (pe_ix ix_tup (pv 0) (pe_op op_mod (pv 1) (pe_callB call_len_seq (by rfl) T.len PySem.boot_len (pa_cons (pv 0) pa_nil))) (fun _ _ => rfl)) pe_int (nomark _))), ?_⟩
    have hb := Int.emod_nonneg t (b := ((hs.length : Nat) : Int)) (by omega)
    have hc := Int.emod_lt_of_pos t (b := ((hs.length : Nat) : Int)) (by omega)
    have hj : (t % ((hs.length : Nat) : Int)).toNat < hs.length := by omega
    refine ⟨_, rfl, _, rfl, _, rfl, a, _, rfl, .inr (SqT.of ea), ?_⟩
    have ex : atI (hs.map V.int) (t % (((hs.map V.int).length : Nat) : Int)) = some (V.int hs[(t % ((hs.length : Nat) : Int)).toNat]) := by
      rw [List.length_map]
      obtain ⟨j, ej⟩ : ∃ j : Nat, t % ((hs.length : Nat) : Int) = (j : Int) := ⟨(t % ((hs.length : Nat) : Int)).toNat, by omega⟩
      have hj2 : j < hs.length := by omega
      refine (congrArg (atI (hs.map V.int)) ej).trans ((atI_nat (v := V.int hs[j]) ?_).trans ?_)
      · rw [List.getElem?_map, List.getElem?_eq_getElem hj2]
        rfl
      · congr 2
        congr 1
        omega
    refine ⟨_, _, rfl, rfl, by rw [List.length_map]; omega, a, _, _, _, rfl, rfl, SqT.of ea, ex, rfl, ?_⟩
    have e : decide (V.int hs[(t % ((hs.length : Nat) : Int)).toNat] = V.int 1) = openI hs t := by
      unfold openI
      rw [List.getElem?_eq_getElem hj, Bool.eq_iff_iff]
      simp
    rw [e]
    exact k
/-- a tuple of whole numbers -/
def IsI (H : Hp) (v : V) (ns : List Int) : Prop := ∃ a, v = .ref a ∧ H a = some (.tup (ns.map V.int))
theorem ints_od {H : Hp} : ∀ ns : List Int, OdAll H (ns.map V.int) (ns.map PyData.int)
  | [] => .nil
  | n :: ns => .cons (.int n) (ints_od ns)
theorem IsI.od {H : Hp} {v : V} {ns : List Int} (h : IsI H v ns) : Od H v (.tuple (ns.map PyData.int)) := by
  obtain ⟨a, rfl, o⟩ := h
  exact .tup o (ints_od ns)
theorem od_I {H : Hp} {v : V} {ns : List Int} (h : Od H v (.tuple (ns.map PyData.int))) : IsI H v ns := by
  obtain ⟨a, xs, rfl, e, o⟩ := od_tup h
  exact ⟨a, rfl, by rw [e, od_nums o]⟩
/-- t[:i] -/
theorem sl_to {K : PySem.W.Frag} {x : V} {ns : List Int} {i : Nat} {H : Hp} {Q : VK} (h : IsI H x ns) (hi : i < ns.length) (k : ∀ z H', Same H H' → IsI H' z (ns.take i) → Q z H') : rSlA K x none (some (i : Int)) H Q := by
  obtain ⟨a, rfl, o⟩ := h
  refine ⟨a, _, rfl, SqT.of o, fun q => ?_, fun _ p hp => k _ _ (same_upd hp) ⟨p, rfl, by rw [upd_same, cutV_to, List.map_take]⟩⟩
  exfalso
  rw [HT.sIx_nat, List.length_map] at q
  omega
def politeAt (ps : List (Int × Int)) (hs ns : List Int) (i : Nat) : Bool := openI hs (ns.getD i 0) && ps.all (apI (ns.take i) (ns.getD i 0))
def firstI (ps : List (Int × Int)) (hs ns : List Int) : Option Nat := (List.range ns.length).find? (fun i => !politeAt ps hs ns i)
def optV : Option Nat → V
  | some i => .int (i : Nat)
  | none => .non
def rulesP (ps : List (Int × Int)) (hs : List Int) : PyData := .tuple [.tuple ((ps.map inD).map tw), .tuple (hs.map PyData.int)]
theorem first_at {ps : List (Int × Int)} {hs ns : List Int} {i : Nat} (hi : i < ns.length) (h : ∀ j, j < i → politeAt ps hs ns j = true) (hb : politeAt ps hs ns i = false) : firstI ps hs ns = some i := by
  unfold firstI
  rw [List.find?_range_eq_some]
  refine ⟨by rw [hb]; rfl, List.mem_range.mpr hi, fun j hj => by rw [h j hj]; rfl⟩
theorem first_none {ps : List (Int × Int)} {hs ns : List Int} (h : ∀ j, j < ns.length → politeAt ps hs ns j = true) : firstI ps hs ns = none := by
  unfold firstI
  rw [List.find?_eq_none]
  intro j hj
  rw [h j (List.mem_range.mp hj)]
  decide
def spFirst (L : List Addr) : Sp := fun vs H Q _ => ∃ (rv av : V) (ps : List (Int × Int)) (hs ns : List Int), vs = [rv, av] ∧ Od H rv (rulesP ps hs) ∧ (∀ p ∈ ps, 1 ≤ p.1) ∧ 0 < hs.length ∧ Od H av (.tuple (ns.map PyData.int)) ∧ Tb L H ∧ ∀ H', UpL L H H' → Q (optV (firstI ps hs ns)) H'
end
end KP

set_option Elab.async false
set_option maxRecDepth 100000
set_option maxHeartbeats 4000000
set_option linter.all false
/-! Ours: the checks of right arguments; the functions. -/
namespace KP
open PySem PySem.Spec PyProof.Rows L2 Gr GxR
theorem gn {i : Nat} {v : V} {σ : L2.St} {H : Hp} {Q : L2.St → Hp → Prop} (h : Q (σ.set i (some v)) H) : gName i v σ H Q := h
theorem next_of {E : Ends} {σ : L2.St} {H : Hp} (h : E.nx σ H) : tNext E σ H := h
def spCk (L : List Addr) (f : PyData → Bool) : Sp := fun vs H Q _ => ∃ v d, vs = [v] ∧ Od H v d ∧ f d = true ∧ Tb L H ∧ ∀ H', UpL L H H' → Q .non H'
def spFrom : Sp := fun vs H Q _ => ∃ t lo : Int, vs = [.int t, .int lo] ∧ lo ≤ t ∧ Q .non H
def asc : Int → List Int → Prop
  | _, [] => True
  | m, n :: l => m ≤ n ∧ asc n l
def spBack : Sp := fun vs H Q _ => ∃ (v : V) (ns : List Int), vs = [v] ∧ Od H v (.tuple (ns.map PyData.int)) ∧ asc 0 ns ∧ ∀ H', Same H H' → Q .non H'
def spAsks : Sp := fun vs H Q _ => ∃ (v : V) (ns : List Int), vs = [v] ∧ Od H v (.tuple (ns.map PyData.int)) ∧ asc 0 ns ∧ ns.length ≤ 200 ∧ ∀ H', Same H H' → Q .non H'
def spPol (L : List Addr) : Sp := fun vs H Q _ => ∃ (rv av : V) (ps : List (Int × Int)) (hs ns : List Int), vs = [rv, av] ∧ Od H rv (rulesP ps hs) ∧ (∀ p ∈ ps, 1 ≤ p.1) ∧ 0 < hs.length ∧ Od H av (.tuple (ns.map PyData.int)) ∧ firstI ps hs ns = none ∧ Tb L H ∧ ∀ H', UpL L H H' → Q .non H'
section
variable {P : Program} {w : World} {K : PySem.W.Frag} {mg : Str → Option Value} {base : Heap}
theorem sc_from : FnScope ["given", "low"] ["given", "low"] (defScope s_check_from) := ⟨rfl, rfl, rfl, by decide +kernel, rfl, by decide +kernel, by decide +kernel⟩
theorem ok_from (T : D K mg) : FnOk P w K mg base CX0 2 T.f_check_from T.d_check_from ["given", "low"] spFrom := by
  refine T.U_check_from.ok sc_from (fun vs H Q E h => ?_) (fun cdv A outer s H vs Q E hr h => ?_)
  · obtain ⟨t, lo, rfl, _⟩ := h
    rfl
  · obtain ⟨t, lo, rfl, hl, k⟩ := h
    refine ⟨_, pss_one (ps_if (PW.pt (pw_or (pt_not (pt_val (pe_call (ok_whole T) hr rfl T.g_is_whole T.U_is_whole.kp T.b_is_whole .nil pass0 (pa_cons (pv 0) pa_nil)))) (pw_or1 (pt_cmpR op_lt (pv 0) (pv 1) (nomark _)))))
        (pss_one ps_never)
        pss_nil), ?_⟩
    refine ⟨_, rfl, _, .int t, rfl, .int t, _, rfl, iteF ⟨_, rfl, _, rfl, _, _, rfl, rfl, _, rfl, ite2 (fun h => ?_) (fun _ => k)⟩⟩
    have := of_decide_eq_true h
    omega
theorem sc_ckr : FnScope ["given"] ["given"] (defScope s_check_rules) := ⟨rfl, rfl, rfl, by decide +kernel, rfl, by decide +kernel, by decide +kernel⟩
theorem ok_ckr (T : D K mg) (TB : Tabs base T) : FnOk P w K mg base CX0 7 T.f_check_rules T.d_check_rules ["given"] (spCk (tabs T) rulesD) := by
  refine T.U_check_rules.ok sc_ckr (fun vs H Q E h => ?_) (fun cdv A outer s H vs Q E hr h => ?_)
  · obtain ⟨v, d, rfl, _⟩ := h
    rfl
  · obtain ⟨v, d, rfl, hd, hl, hT, k⟩ := h
    refine ⟨_, pss_one (ps_if (pt_not (pt_val (pe_call (ok_rules T TB) hr rfl T.g_are_rules T.U_are_rules.kp T.b_are_rules .nil pass0 (pa_cons (pv 0) pa_nil))))
        (pss_one ps_never)
        pss_nil), ?_⟩
    refine ⟨_, rfl, v, d, rfl, hd, trivial, hT, fun H2 u2 => ⟨_, rfl, ?_⟩⟩
    rw [hl]
    exact iteF (k H2 u2)
end
end KP

set_option Elab.async false
set_option maxRecDepth 100000
set_option maxHeartbeats 4000000
set_option linter.all false
/-! Ours: the functions that are asked, of right arguments. -/
namespace KP
open PySem PySem.Spec PyProof.Rows L2 Gr GxR
def spIsOpen (L : List Addr) : Sp := fun vs H Q _ => ∃ (hv : V) (hs : List Int) (t : Int), vs = [hv, .int t] ∧ Od H hv (.tuple (hs.map PyData.int)) ∧ hoursD (.tuple (hs.map PyData.int)) = true ∧ 0 < hs.length ∧ 0 ≤ t ∧ Tb L H ∧ ∀ H', UpL L H H' → Q (.bl (openI hs t)) H'
structure Right (ps : List (Int × Int)) (hs ns : List Int) : Prop where
  r : rulesD (rulesP ps hs) = true
  p : ∀ p ∈ ps, 1 ≤ p.1
  h : 0 < hs.length
  a : asc 0 ns
  n : ns.length ≤ 200
def spFW (L : List Addr) : Sp := fun vs H Q _ => ∃ (rv av : V) (ps : List (Int × Int)) (hs ns : List Int), vs = [rv, av] ∧ Od H rv (rulesP ps hs) ∧ Od H av (.tuple (ns.map PyData.int)) ∧ Right ps hs ns ∧ Tb L H ∧ ∀ H', UpL L H H' → Q (optV (firstI ps hs ns)) H'
def spPolite (L : List Addr) : Sp := fun vs H Q _ => ∃ (rv av : V) (ps : List (Int × Int)) (hs ns : List Int), vs = [rv, av] ∧ Od H rv (rulesP ps hs) ∧ Od H av (.tuple (ns.map PyData.int)) ∧ Right ps hs ns ∧ Tb L H ∧ ∀ H', UpL L H H' → Q (.bl (firstI ps hs ns).isNone) H'
section
variable {P : Program} {w : World} {K : PySem.W.Frag} {mg : Str → Option Value} {base : Heap}
end
end KP

set_option Elab.async false
set_option maxRecDepth 100000
set_option maxHeartbeats 4000000
set_option linter.all false
/-! Ours: may_ask, of right arguments and polite asks. -/
namespace KP
open PySem PySem.Spec PyProof.Rows L2 Gr GxR
def spMay (L : List Addr) : Sp := fun vs H Q _ => ∃ (rv av : V) (ps : List (Int × Int)) (hs ns : List Int) (t : Int), vs = [rv, av, .int t] ∧ Od H rv (rulesP ps hs) ∧ Od H av (.tuple (ns.map PyData.int)) ∧ Right ps hs ns ∧ firstI ps hs ns = none ∧ 0 ≤ t ∧ (∀ x, atI ns (-1) = some x → x ≤ t) ∧ Tb L H ∧ ∀ H', UpL L H H' → Q (.bl (openI hs t && ps.all (apI ns t))) H'
theorem split_ifS {c : TT} {t u : TS} {rest : TS} {D : Ends} {σ : L2.St} {H : Hp} (P1 P2 : Hp → Prop) (hc : ∀ Q : Bool → Hp → Prop, (∀ H', P1 H' → Q true H') → (∀ H', P2 H' → Q false H') → c σ H Q) (h1 : ∀ H', P1 H' → t { D with nx := rest D } σ H') (h2 : ∀ H', P2 H' → u { D with nx := rest D } σ H') : tSeq (tIfS c t u) rest D σ H :=
  hc _ (fun H' q => iteT (h1 H' q)) (fun H' q => iteF (h2 H' q))
theorem atI_mapV {ns : List Int} {i x : Int} (h : atI ns i = some x) : atI (ns.map V.int) i = some (.int x) := by
  unfold atI at h ⊢
  rw [List.length_map]
  cases e : ixN ns.length i with
  | none => rw [e] at h; cases h
  | some j =>
    rw [e] at h
    have h : ns[j]? = some x := h
    show (ns.map V.int)[j]? = _
    rw [List.getElem?_map, h]
    rfl
section
variable {P : Program} {w : World} {K : PySem.W.Frag} {mg : Str → Option Value} {base : Heap}
end
end KP

set_option Elab.async false
set_option maxRecDepth 100000
set_option maxHeartbeats 4000000
set_option linter.all false
/-! Ours: counts that fit limits. -/
namespace KP
open PySem PySem.Spec PyProof.Rows L2 Gr GxR
def prD (p : Int × Int) : PyData := .tuple [.int p.1, .int p.2]
def Lim (ps : List (Int × Int)) : Prop := ps.length ≤ 4 ∧ ∀ p ∈ ps, 1 ≤ p.1 ∧ p.1 ≤ 6 ∧ 1 ≤ p.2 ∧ p.2 ≤ 12
theorem lim_pr {d : PyData} (h : limD d = true) : ∃ p : Int × Int, d = prD p ∧ 1 ≤ p.1 ∧ p.1 ≤ 6 ∧ 1 ≤ p.2 ∧ p.2 ≤ 12 := by
  unfold limD at h
  split at h
  · rename_i a b
    rw [Bool.and_eq_true] at h
    cases a with
    | int i =>
      cases b with
      | int j =>
        obtain ⟨h1, h2⟩ := h
        have h1 : (decide (1 ≤ i) && decide (i ≤ 6)) = true := h1
        have h2 : (decide (1 ≤ j) && decide (j ≤ 12)) = true := h2
        rw [Bool.and_eq_true, decide_eq_true_eq, decide_eq_true_eq] at h1 h2
        exact ⟨(i, j), rfl, h1.1, h1.2, h2.1, h2.2⟩
      | _ => cases h.2
    | _ => cases h.1
  · cases h
theorem all_lims : ∀ {l : List PyData}, l.all limD = true → ∃ ps : List (Int × Int), l = ps.map prD ∧ ∀ p ∈ ps, 1 ≤ p.1 ∧ p.1 ≤ 6 ∧ 1 ≤ p.2 ∧ p.2 ≤ 12
  | [], _ => ⟨[], rfl, fun _ h => nomatch h⟩
  | d :: l, h => by
    rw [List.all_cons, Bool.and_eq_true] at h
    obtain ⟨p, e, hp⟩ := lim_pr h.1
    obtain ⟨ps, e2, h2⟩ := all_lims h.2
    exact ⟨p :: ps, by rw [e, e2]; rfl, fun q hq => by
      rcases List.mem_cons.mp hq with z | z
      · rw [z]; exact hp
      · exact h2 q z⟩
theorem lims_of {d : PyData} (h : limsD d = true) : ∃ ps, d = .tuple (ps.map prD) ∧ Lim ps := by
  unfold limsD at h
  rw [Bool.and_eq_true] at h
  obtain ⟨ds, rfl, _, h4⟩ := row_tup h.1
  obtain ⟨ps, e, hp⟩ := all_lims h.2
  have e : ds = ps.map prD := e
  subst e
  rw [List.length_map] at h4
  exact ⟨ps, rfl, by omega, hp⟩
def spanP (ps : List (Int × Int)) : Int := maxI 1 (ps.map (·.2)) - 1
theorem foldl_bound : ∀ (l : List Int) (n : Int), n ≤ 12 → (∀ x ∈ l, x ≤ 12) → n ≤ l.foldl max n ∧ l.foldl max n ≤ 12
  | [], n, h, _ => ⟨Int.le_refl _, h⟩
  | x :: l, n, h, hl => by
    have hx := hl x List.mem_cons_self
    have := foldl_bound l (max n x) (by omega) fun y hy => hl y (List.mem_cons_of_mem _ hy)
    rw [List.foldl_cons]
    exact ⟨by omega, this.2⟩
theorem span_bound {ps : List (Int × Int)} (h : Lim ps) : 0 ≤ spanP ps ∧ spanP ps ≤ 11 := by
  unfold spanP
  cases ps with
  | nil => exact ⟨by decide, by decide⟩
  | cons p l =>
    have hp := h.2 p List.mem_cons_self
    have := foldl_bound (l.map (·.2)) p.2 (by omega) fun x hx => by
      obtain ⟨q, hq, rfl⟩ := List.mem_map.mp hx
      have := h.2 q (List.mem_cons_of_mem _ hq)
      omega
    show 0 ≤ (l.map (·.2)).foldl max p.2 - 1 ∧ (l.map (·.2)).foldl max p.2 - 1 ≤ 11
    omega
/-- the pair at i, as it stands -/
theorem OdAll.pair {H : Hp} {xs : List V} {ps : List (Int × Int)} (o : OdAll H xs (ps.map prD)) {i : Nat} {x : V} (hx : xs[i]? = some x) : ∃ p b, ps[i]? = some p ∧ x = .ref b ∧ H b = some (.tup [.int p.1, .int p.2]) := by
  have hi : i < ps.length := by
    have := o.len
    rw [List.length_map] at this
    rw [← this]
    exact (List.getElem?_eq_some_iff.mp hx).1
  have e : (ps.map prD)[i]? = some (prD ps[i]) := by rw [List.getElem?_map, List.getElem?_eq_getElem hi]; rfl
  obtain ⟨v, hv, ov⟩ := OdAll.get o e
  rw [hx] at hv
  cases hv
  obtain ⟨b, ys, rfl, eb, ob⟩ := od_tup ov
  match ys, ob with
  | [_, _], .cons (.int _) (.cons (.int _) .nil) => exact ⟨ps[i], b, List.getElem?_eq_getElem hi, rfl, eb⟩
def spSpan : Sp := fun vs H Q _ => ∃ (v : V) (ps : List (Int × Int)), vs = [v] ∧ Od H v (.tuple (ps.map prD)) ∧ Lim ps ∧ ∀ H', Same H H' → Q (.int (spanP ps)) H'
section
variable {P : Program} {w : World} {K : PySem.W.Frag} {mg : Str → Option Value} {base : Heap}
theorem sc_span : FnScope ["limits", "_", "wide"] ["limits"] (defScope s_span_of) := ⟨rfl, rfl, rfl, by decide +kernel, rfl, by decide +kernel, by decide +kernel⟩
theorem ok_span (T : D K mg) : FnOk P w K mg base CX0 1 T.f_span_of T.d_span_of ["limits"] spSpan := by
  refine T.U_span_of.ok sc_span (fun vs H Q E h => ?_) (fun cdv A outer s H vs Q E hr h => ?_)
  · obtain ⟨v, d, rfl, _⟩ := h
    rfl
  · obtain ⟨v, ps, rfl, hd, hl, k⟩ := h
    have nd := sc_span.nd
    have mz : 5000 ≤ sizeLine := by decide
    refine ⟨_, pss_one (ps_ret (pe_op op_sub (pe_callBK (call_maxDef hr.hd hr.units) (by rfl) T.max (by decide +kernel) (pa_cons (pe_lc (own := [("_", 1), ("wide", 2)]) (g := gTup _ 2 (gCons (gName 1) (gCons (gName 2) gNil))) (tt := tYes) rfl nd (pi_tup (pv 0)) (blkOk_by (N := ["limits", "_", "wide"]) (sc := defScope s_span_of) (by decide +kernel)) (fun _ _ _ _ _ => pg_tup rfl (pgs_cons (pg_name (i := 1) nd rfl (.inl rfl)) (pgs_cons (pg_name (i := 2) nd rfl (.inl rfl)) pgs_nil))) (fun _ _ _ _ _ => pts_nil) (fun _ _ _ _ _ => pv 2)) pa_nil) (pk_cons pe_int pk_nil)) pe_int)), ?_⟩
    obtain ⟨a, xs, rfl, ea, oa⟩ := od_tup hd
    have lx : xs.length = ps.length := by rw [oa.len, List.length_map]
    refine ⟨_, rfl, a, rfl, ⟨xs, SqT.of ea⟩, fun D hD => lc_tup (K := K) (a := a) (xs := xs) (fun i H2 => Same H H2 ∧ H2 D = some (.lst (((ps.take i).map (·.2)).map V.int))) ⟨same_upd hD, upd_same⟩ (fun i H2 _ q => SqT.of (q.1 _ _ ea)) ?_ ?_⟩
    · rintro i x H2 hx ⟨s2, e2⟩
      obtain ⟨p, b, hp, rfl, eb⟩ := OdAll.pair oa hx
      refine ⟨b, _, rfl, SqT.of (s2 _ _ eb), rfl, _, _, rfl, _, _, rfl, rfl, rfl, ?_⟩
      unfold tYes
      dsimp only
      rw [if_pos rfl]
      have hip := (List.getElem?_eq_some_iff.mp hp).1
      refine ⟨_, rfl, _, e2, by rw [List.length_map, List.length_map, List.length_take]; have := hl.1; omega, same_into hD s2, ?_⟩
      rw [upd_same, List.take_add_one, hp, List.map_append, List.map_append]
      rfl
    · rintro H2 ⟨s2, e2⟩
      rw [lx, List.take_length] at e2
      refine ⟨D, ps.map (fun p : Int × Int => p.2), 1, rfl, rfl, SqL.of e2, _, _, rfl, rfl, k H2 s2⟩
end
end KP

set_option Elab.async false
set_option maxRecDepth 100000
set_option maxHeartbeats 4000000
set_option linter.all false
/-! Ours: counts that fit limits: the windows. -/
namespace KP
open PySem PySem.Spec PyProof.Rows L2 Gr GxR
def numD : PyData → Int
  | .int n => n
  | _ => 0
def natD : PyData → Bool
  | .int n => decide (0 ≤ n)
  | _ => false
def win (ns : List Int) (p : Int × Int) (at' : Nat) : Bool := decide (((ns.drop at').take p.2.toNat).sum ≤ p.1)
def wins (ns : List Int) (L : Nat) (p : Int × Int) : List Bool := (List.range L).map (win ns p)
def fitD (ps : List (Int × Int)) (d : PyData) : Bool := rowD d (spanP ps) (spanP ps) && ((elems d).all natD && (ps.flatMap (wins ((elems d).map numD) (spanP ps).toNat)).all id)
theorem cut_win (ns : List Int) (i w : Nat) : cutV (ns.map V.int) (some ((i : Nat) : Int)) (some (((i + w : Nat)) : Int)) = ((ns.drop i).take w).map V.int := by
  unfold cutV
  rw [HT.sIx_nat, HT.sIx_nat, List.map_take, List.map_drop]
  generalize ns.map V.int = xs
  by_cases h : i ≤ xs.length
  · rw [Nat.min_eq_left h]
    by_cases h2 : i + w ≤ xs.length
    · rw [Nat.min_eq_left h2]
      congr 1
      omega
    · rw [Nat.min_eq_right (by omega)]
      rw [List.take_of_length_le (by rw [List.length_drop]; exact Nat.le_refl _), List.take_of_length_le (by rw [List.length_drop]; omega)]
  · rw [Nat.min_eq_right (show xs.length ≤ i by omega), Nat.min_eq_right (show xs.length ≤ i + w by omega), List.drop_of_length_le (Nat.le_refl _), List.drop_of_length_le (show xs.length ≤ i by omega), List.take_nil, List.take_nil]
theorem cut_whole {xs : List V} {lo hi : Option Int} (h : HT.sIx xs.length 0 lo = 0 ∧ HT.sIx xs.length xs.length hi = xs.length) : cutV xs lo hi = xs := by
  unfold cutV
  rw [h.1, h.2, List.drop_zero, Nat.sub_zero]
  exact List.take_of_length_le (Nat.le_refl _)
theorem nat_ints {ds : List PyData} (h : ds.all natD = true) : ds = (ds.map numD).map PyData.int := by
  induction ds with
  | nil => rfl
  | cons d l ih =>
    rw [List.all_cons, Bool.and_eq_true] at h
    rw [List.map_cons, List.map_cons, ← ih h.2]
    cases d with
    | int n => rfl
    | _ => cases h.1
theorem od_ints {H : Hp} {xs : List V} {ns : List Int} (o : OdAll H xs (ns.map PyData.int)) : xs = ns.map V.int := by
  induction ns generalizing xs with
  | nil => cases o; rfl
  | cons n l ih =>
    cases o with
    | cons a b =>
      cases a
      rw [ih b]
      rfl
/-- a slice of a tuple of numbers, summed -/
theorem slice_sum {K : PySem.W.Frag} {t0 t1 t2 : TE} {σ : L2.St} {H : Hp} {Q : VK} {a : Addr} {ns : List Int} {i w : Nat} (h0 : ∀ H' (Q' : VK), Q' (.ref a) H' → t0 σ H' Q') (h1 : ∀ H' (Q' : VK), Q' (.int (i : Nat)) H' → t1 σ H' Q') (h2 : ∀ H' (Q' : VK), Q' (.int ((i + w : Nat) : Int)) H' → t2 σ H' Q')
    (e : H a = some (.tup (ns.map V.int))) (k : ∀ H', Same H H' → Q (.int ((ns.drop i).take w).sum) H') : tCB (rSumT K) (tCons (tSl (rSlA K) t0 (tPart t1) (tPart t2)) tNil) σ H Q := by
  refine h0 _ _ (h1 _ _ ⟨_, rfl, h2 _ _ ⟨_, rfl, a, _, rfl, SqT.of e, fun q => ?_, fun _ p hp => ?_⟩⟩)
  · have ec := cut_whole q
    rw [cut_win] at ec
    exact ⟨a, (ns.drop i).take w, rfl, by rw [ec]; exact SqT.of e, k H (.refl _)⟩
  · rw [cut_win]
    exact ⟨p, (ns.drop i).take w, rfl, SqT.of upd_same, k _ (same_upd hp)⟩
theorem sl_tupAB {X : Cx} {s : Shared} {H : Hp} {sc : Scope} {en : Env} {fp : List Addr} : SlR (X.blk s H sc en fp) (rSlA X.K) := sl_tupA
theorem cr_sumTB {X : Cx} {s : Shared} {H : Hp} {sc : Scope} {en : Env} {fp : List Addr} (hd : X.A.handled = none) : CallR (X.blk s H sc en fp) (.builtin "sum") (rSumT X.K) := cr_sumT (X := X.blk s H sc en fp) hd
def spFit (ps0 : List Addr) : Sp := fun vs H Q _ => ∃ (lv v : V) (ps : List (Int × Int)) (d : PyData), vs = [lv, v] ∧ Od H lv (.tuple (ps.map prD)) ∧ Lim ps ∧ Od H v d ∧ Tb ps0 H ∧ ∀ H', UpL ps0 H H' → Q (.bl (fitD ps d)) H'
theorem wins_len (ns : List Int) (L : Nat) (p : Int × Int) : (wins ns L p).length = L := by unfold wins; rw [List.length_map, List.length_range]
theorem flat_len (ns : List Int) (L : Nat) : ∀ ps : List (Int × Int), (ps.flatMap (wins ns L)).length = ps.length * L
  | [] => by simp
  | p :: l => by rw [List.flatMap_cons, List.length_append, wins_len, flat_len ns L l, List.length_cons, Nat.succ_mul, Nat.add_comm]
section
variable {P : Program} {w : World} {K : PySem.W.Frag} {mg : Str → Option Value} {base : Heap}
/-- limits told first -/
def spCnt (ps0 : List Addr) : Sp := spFit ps0
theorem lim_ok {ps : List (Int × Int)} (h : Lim ps) : limsD (.tuple (ps.map prD)) = true := by
  have e1 : rowD (.tuple (ps.map prD)) 0 4 = true := by
    show (decide ((0 : Int) ≤ ((ps.map prD).length : Nat)) && decide ((((ps.map prD).length : Nat) : Int) ≤ 4)) = true
    have := h.1
    rw [List.length_map, Bool.and_eq_true, decide_eq_true_eq, decide_eq_true_eq]
    omega
  have e2 : (ps.map prD).all limD = true := by
    refine List.all_eq_true.mpr fun d hd => ?_
    obtain ⟨p, hp, rfl⟩ := List.mem_map.mp hd
    have := h.2 p hp
    show ((decide (1 ≤ p.1) && decide (p.1 ≤ 6)) && (decide (1 ≤ p.2) && decide (p.2 ≤ 12))) = true
    simp only [Bool.and_eq_true, decide_eq_true_eq]
    omega
  unfold limsD
  rw [e1]
  exact e2
end
end KP

set_option Elab.async false
set_option maxRecDepth 100000
set_option maxHeartbeats 4000000
set_option linter.all false
/-! Ours: min(numbers, default=None). -/
namespace Gr
open PySem PySem.Spec PyProof.Rows L2 GxR
def minV : List Int → V
  | [] => .non
  | n :: ns => .int (ns.foldl min n)
def rMinDef (K : PySem.W.Frag) : List V → List V → Hp → VK → Prop := fun vs zs H Q => ∃ (a : Addr) (ns : List Int) (_k : Int), vs = [.ref a] ∧ zs = [.non] ∧ SqL K H a (ns.map V.int) ∧ Q (minV ns) H
theorem call_minDef {X : Cx} (hd : X.A.handled = none) (hu : X.A.units + 64 < cLine) : CallRK X (.builtin "min") [("default" : Str)] (rMinDef X.K) := by
  intro pins s σ H xs zs us ws Q I rx rz h
  obtain ⟨a, ns, k, rfl, rfl, hS, q⟩ := h
  obtain ⟨u, rfl, ru⟩ := vals1 rx
  obtain ⟨uw, rfl, rw2⟩ := vals1 rz
  cases ru
  cases rw2
  obtain ⟨its, rv, pl, hz⟩ := I.list hS
  obtain ⟨as, ra⟩ := ints_reads (h := s.heap) rv
  refine PySem.W.min_list_default (xs := ns.map PyData.int) (d := .none) hd pl.isList (by exact ra) (ints_alike ns) (by have := ints_depth ns; omega) (fun e h' tk hk => ?_) (fun y ys i v h' tk bs e hv hr hk => ?_)
  · cases ns with
    | nil => exact ⟨.non, H, I.kept (t' := tk) hk, rfl, q⟩
    | cons n l => cases e
  · cases ns with
    | nil => cases e
    | cons n l =>
      have e1 : y = .int n := (List.cons.inj e).1.symm
      have e2 : ys = l.map PyData.int := (List.cons.inj e).2.symm
      subst e1
      subst e2
      rw [PySem.W.minD_ints] at hr
      cases hr
      exact ⟨.int _, H, I.kept (t' := tk) hk, ⟨_, rfl⟩, q⟩
end Gr

set_option Elab.async false
set_option maxRecDepth 100000
set_option maxHeartbeats 4000000
set_option linter.all false
/-! Ours: tracked tuples joined and cut, told without cases; the same within a comprehension. -/
namespace Gr
open PySem PySem.Spec PyProof.Rows L2 GxR
theorem op_catAB {X : Cx} {s : Shared} {H : Hp} {sc : Scope} {en : Env} {fp : List Addr} : OpR (X.blk s H sc en fp) (binaryOp .Add) (rCatA X.K) := op_catA
/-- two tracked tuples joined -/
theorem cat_tt {K : PySem.W.Frag} {H : Hp} {a b : Addr} {xs ys : List V} {Q : VK} (ha : H a = some (.tup xs)) (hb : H b = some (.tup ys)) (hl : xs.length + ys.length ≤ sizeLine) (k : ∀ p H', Same H H' → H' p = some (.tup (xs ++ ys)) → Q (.ref p) H') : rCatA K (.ref a) (.ref b) H Q := by
  refine ⟨a, b, xs, ys, rfl, rfl, SqT.of ha, SqT.of hb, hl, fun z => ?_, fun _ z => ?_, fun _ _ p hp => k p _ (same_upd hp) upd_same⟩
  · subst z
    exact k b H (.refl H) hb
  · subst z
    exact k a H (.refl H) (by rw [List.append_nil]; exact ha)
/-- the first w of a tracked tuple -/
theorem slice_tt {K : PySem.W.Frag} {H : Hp} {a : Addr} {xs : List V} {w : Int} {Q : VK} (hw : 0 ≤ w) (ha : H a = some (.tup xs)) (k : ∀ p H', Same H H' → H' p = some (.tup (xs.take w.toNat)) → Q (.ref p) H') : rSlA K (.ref a) none (some w) H Q := by
  have e1 : HT.sIx xs.length xs.length (some w) = min w.toNat xs.length := by
    show (if w < 0 then (w + ((xs.length : Nat) : Int)).toNat else min w.toNat xs.length) = _
    rw [if_neg (by omega)]
  have e0 : HT.sIx xs.length 0 none = 0 := HT.sIx_none _ _
  refine ⟨a, xs, rfl, SqT.of ha, fun z => ?_, fun _ p hp => k p _ (same_upd hp) ?_⟩
  · rw [e1] at z
    exact k a H (.refl H) (by rw [List.take_of_length_le (by omega)]; exact ha)
  · rw [upd_same]
    unfold cutV
    rw [e0, e1, List.drop_zero, Nat.sub_zero]
    congr 2
    by_cases y : w.toNat ≤ xs.length
    · rw [Nat.min_eq_left y]
    · rw [Nat.min_eq_right (by omega), List.take_of_length_le (Nat.le_refl _), List.take_of_length_le (by omega)]
end Gr

set_option Elab.async false
set_option maxRecDepth 100000
set_option linter.all false
/-! Ours: keeping apart is counting: mathematics. -/
namespace KP
open PySem PySem.Spec PyProof.Rows L2 Gr GxR
def Srt (ns : List Int) : Prop := ∀ (i j : Nat) (hi : i < ns.length) (hj : j < ns.length), i ≤ j → ns[i] ≤ ns[j]
theorem asc_get : ∀ {ns : List Int} {m : Int}, asc m ns → ∀ (i : Nat) (hi : i < ns.length), m ≤ ns[i]
  | n :: l, m, h, 0, _ => h.1
  | n :: l, m, h, i + 1, hi => by
    have hi' : i < l.length := by simpa using hi
    have a := asc_get h.2 i hi'
    have b := h.1
    show m ≤ l[i]
    omega
theorem asc_srt : ∀ {ns : List Int} {m : Int}, asc m ns → Srt ns
  | [], _, _, i, j, hi, _, _ => absurd hi (Nat.not_lt_zero _)
  | n :: l, m, h, 0, 0, _, _, _ => Int.le_refl _
  | n :: l, m, h, 0, j + 1, _, hj, _ => asc_get h.2 j (by simpa using hj)
  | n :: l, m, h, i + 1, 0, _, _, hij => absurd hij (Nat.not_succ_le_zero _)
  | n :: l, m, h, i + 1, j + 1, hi, hj, hij => asc_srt h.2 i j (by simpa using hi) (by simpa using hj) (by omega)
def above (c : Int) (ns : List Int) : Nat := ns.countP (fun x => decide (c < x))
theorem above_split (c : Int) (ns : List Int) (m : Nat) : above c ns = above c (ns.take m) + above c (ns.drop m) := by
  unfold above
  rw [← List.countP_append, List.take_append_drop]
theorem above_all {c : Int} {ns : List Int} (h : ∀ x ∈ ns, c < x) : above c ns = ns.length := by
  unfold above
  rw [List.countP_eq_length]
  intro x hx
  exact decide_eq_true (h x hx)
theorem above_none {c : Int} {ns : List Int} (h : ∀ x ∈ ns, x ≤ c) : above c ns = 0 := by
  unfold above
  rw [List.countP_eq_zero]
  intro x hx q
  have := of_decide_eq_true q
  have := h x hx
  omega
theorem above_le (c : Int) (ns : List Int) : above c ns ≤ ns.length := List.countP_le_length
/-- k or more stand above c exactly if the one k from the end does -/
theorem above_iff {ns : List Int} (hs : Srt ns) {c : Int} {k : Nat} (hk : 1 ≤ k) (hl : k ≤ ns.length) : k ≤ above c ns ↔ c < ns[ns.length - k] := by
  constructor
  · intro h
    by_cases q : c < ns[ns.length - k]
    · exact q
    · exfalso
      have e := above_split c ns (ns.length - k + 1)
      have z : above c (ns.take (ns.length - k + 1)) = 0 := above_none fun x hx => by
        obtain ⟨i, hi, rfl⟩ := List.getElem_of_mem hx
        rw [List.length_take] at hi
        rw [List.getElem_take]
        have := hs i (ns.length - k) (by omega) (by omega) (by omega)
        omega
      have d := above_le c (ns.drop (ns.length - k + 1))
      rw [List.length_drop] at d
      omega
  · intro h
    have e := above_split c ns (ns.length - k)
    have z : above c (ns.drop (ns.length - k)) = (ns.drop (ns.length - k)).length := above_all fun x hx => by
      obtain ⟨i, hi, rfl⟩ := List.getElem_of_mem hx
      rw [List.length_drop] at hi
      rw [List.getElem_drop]
      have := hs (ns.length - k) (ns.length - k + i) (by omega) (by omega) (by omega)
      omega
    rw [List.length_drop] at z
    omega
/-- with t itself no more than k stand within the last w moments -/
theorem ap_count {ns : List Int} (hs : Srt ns) {t : Int} {q : Int × Int} (h1 : 1 ≤ q.1) : apI ns t q = decide (((above (t - q.2) ns : Nat) : Int) < q.1) := by
  have hle := above_le (t - q.2) ns
  unfold apI
  by_cases hl : ((ns.length : Nat) : Int) < q.1
  · rw [decide_eq_true hl, decide_eq_true (by omega), Bool.true_or]
  · rw [decide_eq_false hl, Bool.false_or]
    obtain ⟨x, hx⟩ := atI_some h1 hl
    rw [hx]
    have hk : 1 ≤ q.1.toNat := by omega
    have hl' : q.1.toNat ≤ ns.length := by omega
    have ex : x = ns[ns.length - q.1.toNat] := by
      unfold atI ixN at hx
      rw [if_neg (by omega), if_pos (by omega)] at hx
      have hx : ns[(-q.1 + ((ns.length : Nat) : Int)).toNat]? = some x := hx
      have e : (-q.1 + ((ns.length : Nat) : Int)).toNat = ns.length - q.1.toNat := by omega
      rw [e, List.getElem?_eq_getElem (by omega)] at hx
      exact (Option.some.inj hx).symm
    have := above_iff hs (c := t - q.2) hk hl'
    rw [← ex] at this
    show decide (q.2 ≤ t - x) = _
    rw [Bool.eq_iff_iff, decide_eq_true_eq, decide_eq_true_eq]
    constructor
    · intro h
      have : ¬ q.1.toNat ≤ above (t - q.2) ns := fun z => by
        have := this.mp z
        omega
      omega
    · intro h
      have : ¬ t - q.2 < x := fun z => by
        have := this.mpr z
        omega
      omega
end KP

set_option Elab.async false
set_option maxRecDepth 100000
set_option maxHeartbeats 4000000
set_option linter.all false
/-! Ours: the law's open hours; its first wrong ask by a list's length. -/
namespace KP
open PySem PySem.Spec PyProof.Rows L2 Gr GxR
theorem ix_tupB {X : Cx} {s : Shared} {H : Hp} {sc : Scope} {en : Env} {fp : List Addr} : IxR (X.blk s H sc en fp) (rIxT X.K) := ix_tup
theorem IsI.same {H H1 : Hp} {v : V} {ns : List Int} (h : IsI H v ns) (s : Same H H1) : IsI H1 v ns := let ⟨a, e, o⟩ := h; ⟨a, e, s _ _ o⟩
/-- t[:i], all of it too -/
theorem sl_upto {K : PySem.W.Frag} {x : V} {ns : List Int} {i : Nat} {H : Hp} {Q : VK} (h : IsI H x ns) (k : ∀ z H', Same H H' → IsI H' z (ns.take i) → Q z H') : rSlA K x none (some (i : Int)) H Q := by
  obtain ⟨a, rfl, o⟩ := h
  refine ⟨a, _, rfl, SqT.of o, fun q => ?_, fun _ p hp => k _ _ (same_upd hp) ⟨p, rfl, by rw [upd_same, cutV_to, List.map_take]⟩⟩
  rw [HT.sIx_nat, List.length_map] at q
  refine k _ _ (.refl _) ⟨a, rfl, ?_⟩
  rw [List.take_of_length_le (by omega)]
  exact o
def spWrongAt : Sp := fun vs H Q _ => ∃ (lv hv av : V) (ps : List (Int × Int)) (hs ns : List Int), vs = [lv, hv, av] ∧ Od H lv (.tuple ((ps.map inD).map tw)) ∧ (∀ p ∈ ps, 1 ≤ p.1 ∧ 1 ≤ p.2 ∧ p.2 ≤ 1000) ∧ Od H hv (.tuple (hs.map PyData.int)) ∧ 0 < hs.length ∧ Od H av (.tuple (ns.map PyData.int)) ∧ Srt ns ∧ ns.length ≤ 1000 ∧ ∀ H', Same H H' → Q (optV (firstI ps hs ns)) H'
theorem ifop {r : R2} {t1 t2 : TE} {t u : TS} {D : Ends} {σ : L2.St} {H : Hp} (h : t1 σ H fun x H1 => t2 σ H1 fun y H2 => r x y H2 fun x H' => ∃ k, x = V.bl k ∧ if k = true then t D σ H' else u D σ H') : tIfS (tTest (tOp r t1 t2)) t u D σ H := h
theorem pair_at {H : Hp} : ∀ {ls : List V} {ps : List (Int × Int)}, OdAll H ls ((ps.map inD).map tw) → ∀ {i : Nat} {x : V}, ls[i]? = some x → ∃ p b, ps[i]? = some p ∧ x = .ref b ∧ H b = some (.tup [.int p.1, .int p.2])
  | _, [], .nil, i, x, h => by cases h
  | _, p :: ps, .cons a _, 0, x, h => by
    cases h
    obtain ⟨b, xs, rfl, e, o⟩ := od_tup a
    match xs, o with
    | [y, z], .cons o1 (.cons o2 .nil) =>
      cases o1
      cases o2
      exact ⟨p, b, rfl, rfl, e⟩
  | _, p :: ps, .cons _ r, i + 1, x, h => pair_at (ps := ps) r (i := i) h
theorem above_len (c : Int) (l : List Int) : above c l = (l.filter fun x => decide (c < x)).length := List.countP_eq_length_filter
theorem above_take {ns : List Int} {i : Nat} (hi : i < ns.length) {w : Int} (hw : 1 ≤ w) : above (ns[i] - w) (ns.take (i + 1)) = above (ns[i] - w) (ns.take i) + 1 := by
  rw [List.take_add_one, List.getElem?_eq_getElem hi]
  unfold above
  rw [List.countP_append]
  congr 1
  show List.countP _ [ns[i]] = 1
  rw [List.countP_cons_of_pos (by exact decide_eq_true (by omega)), List.countP_nil]
theorem srt_take {ns : List Int} (h : Srt ns) (i : Nat) : Srt (ns.take i) := fun a b ha hb hab => by
  rw [List.length_take] at ha hb
  rw [List.getElem_take, List.getElem_take]
  exact h a b (by omega) (by omega) hab
section
variable {P : Program} {w : World} {K : PySem.W.Frag} {mg : Str → Option Value} {base : Heap}
theorem sc_lopen : FnScope ["_law_clock", "_law_time"] ["_law_clock", "_law_time"] (defScope s_l_open) := ⟨rfl, rfl, rfl, by decide +kernel, rfl, by decide +kernel, by decide +kernel⟩
theorem ok_lopen (T : D K mg) : FnOk P w K mg base CX0 1 T.f_l_open T.d_l_open ["_law_clock", "_law_time"] spOpens := by
  refine T.U_l_open.ok sc_lopen (fun vs H Q E h => ?_) (fun cdv A outer s H vs Q E hr h => ?_)
  · obtain ⟨hv, hs, t, rfl, _⟩ := h
    rfl
  · obtain ⟨hv, hs, t, rfl, ho, h0, k⟩ := h
    have nd := sc_lopen.nd
    obtain ⟨a, xs, rfl, ea, oa⟩ := od_tup ho
    have exs := od_nums oa
    subst exs
    refine ⟨_, pss_one (ps_ret (pe_cmpR op_eq (pe_ix ix_tup (pv 0) (pe_op op_mod (pe_callTy call_int1 (by rfl) T.int PyProof.Rows.boot_int (pa_cons (pv 1) pa_nil)) (pe_callB call_len_seq (by rfl) T.len PySem.boot_len (pa_cons (pv 0) pa_nil))) (fun _ _ => rfl)) pe_int (nomark _))), ?_⟩
    have hb := Int.emod_nonneg t (b := ((hs.length : Nat) : Int)) (by omega)
    have hc := Int.emod_lt_of_pos t (b := ((hs.length : Nat) : Int)) (by omega)
    have hj : (t % ((hs.length : Nat) : Int)).toNat < hs.length := by omega
    have ex : atI (hs.map V.int) (t % (((hs.map V.int).length : Nat) : Int)) = some (V.int hs[(t % ((hs.length : Nat) : Int)).toNat]) := by
      rw [List.length_map]
      obtain ⟨j, ej⟩ : ∃ j : Nat, t % ((hs.length : Nat) : Int) = (j : Int) := ⟨(t % ((hs.length : Nat) : Int)).toNat, by omega⟩
      have hj2 : j < hs.length := by omega
      refine (congrArg (atI (hs.map V.int)) ej).trans ((atI_nat (v := V.int hs[j]) ?_).trans ?_)
      · rw [List.getElem?_map, List.getElem?_eq_getElem hj2]
        rfl
      · congr 2
        congr 1
        omega
    refine ⟨_, rfl, _, rfl, .inl ⟨_, rfl, _, rfl, a, _, rfl, .inr (SqT.of ea), _, _, rfl, rfl, by rw [List.length_map]; omega, a, _, _, _, rfl, rfl, SqT.of ea, ex, rfl, ?_⟩⟩
    have e : decide (V.int hs[(t % ((hs.length : Nat) : Int)).toNat] = V.int 1) = openI hs t := by
      unfold openI
      rw [List.getElem?_eq_getElem hj, Bool.eq_iff_iff]
      simp
    rw [e]
    exact k
end
end KP

set_option Elab.async false
set_option maxRecDepth 100000
set_option maxHeartbeats 4000000
set_option linter.all false
/-! Ours: the first wrong ask by a dict of counts. -/
namespace KP
open PySem PySem.Spec PyProof.Rows L2 Gr GxR
theorem above_step (c : Int) : ∀ l : List Int, above (c - 1) l = above c l + l.count c
  | [] => rfl
  | x :: l => by
    have ih := above_step c l
    unfold above at ih ⊢
    rw [List.countP_cons, List.countP_cons, List.count_cons, ih]
    by_cases h1 : c < x
    · have h2 : ¬ x = c := by omega
      simp only [decide_eq_true h1, decide_eq_true (show c - 1 < x by omega), beq_iff_eq, h2, if_true, if_false]
      omega
    · by_cases h2 : x = c
      · subst h2
        simp only [decide_eq_false h1, decide_eq_true (show x - 1 < x by omega), beq_self_eq_true, if_true, Bool.false_eq_true, if_false]
        omega
      · simp only [decide_eq_false h1, decide_eq_false (show ¬ c - 1 < x by omega), beq_iff_eq, h2, Bool.false_eq_true, if_false]
        omega
/-- the counts of the last w moments together -/
theorem sum_counts {l : List Int} {t : Int} (h : ∀ x ∈ l, x ≤ t) : ∀ w : Nat, ((List.range w).map fun b : Nat => ((l.count (t - (b : Int)) : Nat) : Int)).sum = ((above (t - (w : Int)) l : Nat) : Int)
  | 0 => by
    rw [show t - ((0 : Nat) : Int) = t by omega, above_none h]
    rfl
  | w + 1 => by
    rw [List.range_succ, List.map_append, List.sum_append, sum_counts h w]
    have e := above_step (t - (w : Int)) l
    rw [show t - ((w + 1 : Nat) : Int) = t - (w : Int) - 1 by omega, e]
    show _ + ((((l.count (t - (w : Int)) : Nat) : Int)) + 0) = _
    omega
/-- the dict holds the counts of l -/
def Cnt (kvs : List (Key × V)) (l : List Int) : Prop := (∀ x : Int, (valV kvs (.inl x)).getD (.int 0) = .int (l.count x : Nat)) ∧ kvs.length ≤ l.length
theorem cnt_put {kvs : List (Key × V)} {l : List Int} {x : Int} (h : Cnt kvs l) : Cnt (putK kvs (.inl x) (.int ((l.count x : Nat) + 1))) (l ++ [x]) := by
  refine ⟨fun y => ?_, ?_⟩
  · rw [valV_put, List.count_append]
    by_cases e : y = x
    · subst e
      rw [if_pos rfl]
      show V.int _ = _
      rw [List.count_singleton_self]
      rfl
    · rw [if_neg (fun q => e (Sum.inl.inj q)), h.1 y]
      have : List.count y [x] = 0 := List.count_eq_zero.mpr (fun q => e (List.mem_singleton.mp q))
      rw [this]
      rfl
  · have := length_putK kvs (.inl x) (.int ((l.count x : Nat) + 1))
    have := h.2
    rw [List.length_append]
    show _ ≤ _ + 1
    omega
theorem open_at {hs : List Int} (h0 : 0 < hs.length) (t : Int) : ∃ x : Int, atI (hs.map V.int) (t % (((hs.map V.int).length : Nat) : Int)) = some (V.int x) ∧ decide (V.int x = V.int 1) = openI hs t := by
  have hb := Int.emod_nonneg t (b := ((hs.length : Nat) : Int)) (by omega)
  have hc := Int.emod_lt_of_pos t (b := ((hs.length : Nat) : Int)) (by omega)
  have hj : (t % ((hs.length : Nat) : Int)).toNat < hs.length := by omega
  refine ⟨hs[(t % ((hs.length : Nat) : Int)).toNat], ?_, ?_⟩
  · rw [List.length_map]
    obtain ⟨j, ej⟩ : ∃ j : Nat, t % ((hs.length : Nat) : Int) = (j : Int) := ⟨(t % ((hs.length : Nat) : Int)).toNat, by omega⟩
    have hj2 : j < hs.length := by omega
    refine (congrArg (atI (hs.map V.int)) ej).trans ((atI_nat (v := V.int hs[j]) ?_).trans ?_)
    · rw [List.getElem?_map, List.getElem?_eq_getElem hj2]
      rfl
    · congr 2
      congr 1
      omega
  · unfold openI
    rw [List.getElem?_eq_getElem hj, Bool.eq_iff_iff]
    simp
section
variable {P : Program} {w : World} {K : PySem.W.Frag} {mg : Str → Option Value} {base : Heap}
end
end KP

set_option Elab.async false
set_option maxRecDepth 100000
set_option maxHeartbeats 4000000
set_option linter.all false
/-! Ours: the soonest ask, one. -/
namespace KP
open PySem PySem.Spec PyProof.Rows L2 Gr GxR
theorem open_soon {hs : List Int} {j : Nat} (hj : j < hs.length) (h1 : hs[j] = 1) (t : Int) : ∃ s : Nat, s < hs.length ∧ openI hs (t + s) = true := by
  have h0 : 0 < hs.length := by omega
  refine ⟨((j : Int) - t).emod hs.length |>.toNat, ?_, ?_⟩
  · have := Int.emod_nonneg ((j : Int) - t) (b := ((hs.length : Nat) : Int)) (by omega)
    have := Int.emod_lt_of_pos ((j : Int) - t) (b := ((hs.length : Nat) : Int)) (by omega)
    show (((j : Int) - t) % ((hs.length : Nat) : Int)).toNat < _
    omega
  · have a := Int.emod_nonneg ((j : Int) - t) (b := ((hs.length : Nat) : Int)) (by omega)
    show openI hs (t + (((((j : Int) - t) % ((hs.length : Nat) : Int)).toNat : Nat) : Int)) = true
    rw [Int.toNat_of_nonneg a]
    unfold openI
    have e : (t + ((j : Int) - t) % ((hs.length : Nat) : Int)) % ((hs.length : Nat) : Int) = (j : Int) := by
      rw [Int.add_emod_emod, show t + ((j : Int) - t) = (j : Int) by omega]
      exact Int.emod_eq_of_lt (by omega) (by omega)
    rw [e, Int.toNat_natCast, List.getElem?_eq_getElem hj, h1]
    rfl
def cutI (ns : List Int) (lo hi : Option Int) : List Int := (ns.drop (HT.sIx ns.length 0 lo)).take (HT.sIx ns.length ns.length hi - HT.sIx ns.length 0 lo)
theorem cut_I (ns : List Int) (lo hi : Option Int) : cutV (ns.map V.int) lo hi = (cutI ns lo hi).map V.int := by
  unfold cutV cutI
  rw [List.length_map, List.map_take, List.map_drop]
theorem last_in {ns : List Int} {x : Int} (h : atI ns (-1) = some x) : x ∈ cutI ns (some (-1)) none := by
  have hl : ns ≠ [] := fun e => by rw [e] at h; cases h
  have hp : 0 < ns.length := List.length_pos_iff.mpr hl
  unfold atI ixN at h
  rw [if_neg (by omega), if_pos (by omega)] at h
  have h : ns[(-1 + ((ns.length : Nat) : Int)).toNat]? = some x := h
  have e : (-1 + ((ns.length : Nat) : Int)).toNat = ns.length - 1 := by omega
  rw [e] at h
  unfold cutI
  have es : HT.sIx ns.length 0 (some (-1)) = ns.length - 1 := by
    show (if (-1 : Int) < 0 then ((-1 : Int) + ((ns.length : Nat) : Int)).toNat else min (-1 : Int).toNat ns.length) = _
    rw [if_pos (by decide)]
    exact e
  rw [es, HT.sIx_none]
  obtain ⟨hi, hx⟩ := List.getElem?_eq_some_iff.mp h
  rw [List.drop_eq_getElem_cons hi, hx, show ns.length - (ns.length - 1) = 1 by omega]
  exact List.mem_cons_self
theorem atI_back {ns : List Int} {k x : Int} (h1 : 1 ≤ k) (h2 : k ≤ ((ns.length : Nat) : Int)) (h : atI ns (-k) = some x) : atI ns (((ns.length : Nat) : Int) - k) = some x := by
  unfold atI ixN at h ⊢
  rw [if_neg (by omega), if_pos (by omega)] at h
  rw [if_pos (by omega), if_pos (by omega)]
  have e : (-k + ((ns.length : Nat) : Int)).toNat = (((ns.length : Nat) : Int) - k).toNat := by omega
  rw [e] at h
  exact h
theorem ap_mono {ns : List Int} {t u : Int} {q : Int × Int} (h : apI ns t q = true) (l : t ≤ u) : apI ns u q = true := by
  unfold apI at h ⊢
  rw [Bool.or_eq_true] at h ⊢
  rcases h with h | h
  · exact .inl h
  · refine .inr ?_
    cases e : atI ns (-q.1) with
    | none => rw [e] at h; cases h
    | some x =>
      rw [e] at h
      have h := of_decide_eq_true h
      exact decide_eq_true (by omega)
end KP

set_option Elab.async false
set_option maxRecDepth 100000
set_option linter.all false
/-! Ours: the next ask, as the least one; rows of them. -/
namespace KP
open PySem PySem.Spec PyProof.Rows L2 Gr GxR
/-- t is behind the last of rs, from st on -/
def Past (rs : List Int) (st t : Int) : Prop := st ≤ t ∧ ∀ x, atI rs (-1) = some x → x ≤ t
structure IsNxt (ps : List (Int × Int)) (hs rs : List Int) (st t : Int) : Prop where
  past : Past rs st t
  opn : openI hs t = true
  all : ps.all (apI rs t) = true
  least : ∀ u, Past rs st u → openI hs u = true → ps.all (apI rs u) = true → t ≤ u
theorem IsNxt.one {ps : List (Int × Int)} {hs rs : List Int} {st t u : Int} (a : IsNxt ps hs rs st t) (b : IsNxt ps hs rs st u) : t = u := by
  have := a.least u b.past b.opn b.all
  have := b.least t a.past a.opn a.all
  omega
/-- each of ts is the next one behind ns and those ahead of it -/
def SRow (ps : List (Int × Int)) (hs ns : List Int) (st : Int) (ts : List Int) : Prop := ∀ (i : Nat) (h : i < ts.length), IsNxt ps hs (ns ++ ts.take i) st ts[i]
theorem SRow.nil {ps : List (Int × Int)} {hs ns : List Int} {st : Int} : SRow ps hs ns st [] := fun i h => absurd h (Nat.not_lt_zero i)
theorem SRow.snoc {ps : List (Int × Int)} {hs ns ts : List Int} {st t : Int} (h : SRow ps hs ns st ts) (n : IsNxt ps hs (ns ++ ts) st t) : SRow ps hs ns st (ts ++ [t]) := fun i hi => by
  rw [List.length_append] at hi
  have hi : i < ts.length + 1 := hi
  by_cases z : i < ts.length
  · rw [List.getElem_append_left z, List.take_append_of_le_length (by omega)]
    exact h i z
  · have e : i = ts.length := by omega
    subst e
    rw [List.getElem_append_right (Nat.le_refl _), List.take_left]
    simpa using n
theorem SRow.one {ps : List (Int × Int)} {hs ns ts us : List Int} {st : Int} (a : SRow ps hs ns st ts) (b : SRow ps hs ns st us) : ∀ i, i ≤ ts.length → i ≤ us.length → ts.take i = us.take i
  | 0, _, _ => by rw [List.take_zero, List.take_zero]
  | i + 1, h1, h2 => by
    have e := SRow.one a b i (by omega) (by omega)
    have n1 := a i (by omega)
    have n2 := b i (by omega)
    rw [e] at n1
    rw [List.take_add_one, List.take_add_one, List.getElem?_eq_getElem (by omega), List.getElem?_eq_getElem (by omega), e, n1.one n2]
theorem SRow.same {ps : List (Int × Int)} {hs ns ts us : List Int} {st : Int} (a : SRow ps hs ns st ts) (b : SRow ps hs ns st us) (h : ts.length = us.length) : ts = us := by
  have := SRow.one a b ts.length (Nat.le_refl _) (by omega)
  rw [List.take_of_length_le (Nat.le_refl _), List.take_of_length_le (by omega)] at this
  exact this
theorem SRow.take {ps : List (Int × Int)} {hs ns ts : List Int} {st : Int} (a : SRow ps hs ns st ts) (k : Nat) : SRow ps hs ns st (ts.take k) := fun i hi => by
  rw [List.length_take] at hi
  have := a i (by omega)
  rw [List.getElem_take, List.take_take, Nat.min_eq_left (by omega)]
  exact this
theorem SRow.drop {ps : List (Int × Int)} {hs ns ts : List Int} {st : Int} (a : SRow ps hs ns st ts) (k : Nat) : SRow ps hs (ns ++ ts.take k) st (ts.drop k) := fun i hi => by
  rw [List.length_drop] at hi
  have := a (k + i) (by omega)
  rw [List.getElem_drop, List.append_assoc, ← List.take_add]
  exact this
theorem last_at {ns : List Int} (h : 0 < ns.length) : atI ns (-1) = some (ns[ns.length - 1]'(by omega)) := by
  unfold atI ixN
  rw [if_neg (by omega), if_pos (by omega)]
  show ns[(-1 + ((ns.length : Nat) : Int)).toNat]? = _
  rw [show (-1 + ((ns.length : Nat) : Int)).toNat = ns.length - 1 by omega]
  exact List.getElem?_eq_getElem (by omega)
theorem last_some {ns : List Int} {x : Int} (h : atI ns (-1) = some x) : ∃ h0 : 0 < ns.length, x = ns[ns.length - 1]'(by omega) := by
  cases ns with
  | nil => cases h
  | cons n l =>
    rw [last_at (by simp)] at h
    exact ⟨by simp, (Option.some.inj h).symm⟩
theorem past_srt {ns : List Int} (hs : Srt ns) {st t : Int} (h : Past ns st t) : ∀ x ∈ ns, x ≤ t := fun x hx => by
  obtain ⟨i, hi, rfl⟩ := List.getElem_of_mem hx
  have := h.2 _ (last_at (by omega))
  have := hs i (ns.length - 1) hi (by omega) (by omega)
  omega
theorem back_at {ns : List Int} {k : Int} (h1 : 1 ≤ k) (h2 : k ≤ ((ns.length : Nat) : Int)) : atI ns (-k) = some (ns[ns.length - k.toNat]'(by omega)) := by
  unfold atI ixN
  rw [if_neg (by omega), if_pos (by omega)]
  show ns[(-k + ((ns.length : Nat) : Int)).toNat]? = _
  rw [show (-k + ((ns.length : Nat) : Int)).toNat = ns.length - k.toNat by omega]
  exact List.getElem?_eq_getElem (by omega)
/-- of two rows of one length, one sooner than the other, ask by ask: what the later one lets, the sooner one lets -/
theorem ap_sooner {rs us : List Int} {t : Int} {q : Int × Int} (h1 : 1 ≤ q.1) (hl : rs.length = us.length) (hle : ∀ (i : Nat) (h : i < rs.length), rs[i] ≤ us[i]'(hl ▸ h)) (h : apI us t q = true) : apI rs t q = true := by
  unfold apI at h ⊢
  rw [hl]
  rw [Bool.or_eq_true] at h ⊢
  rcases h with h | h
  · exact .inl h
  · by_cases z : ((us.length : Nat) : Int) < q.1
    · exact .inl (decide_eq_true z)
    · rw [back_at h1 (by omega)] at h
      rw [back_at h1 (by omega)]
      have h := of_decide_eq_true h
      have := hle (rs.length - q.1.toNat) (by omega)
      refine .inr (decide_eq_true ?_)
      have e : us[rs.length - q.1.toNat]'(by omega) = us[us.length - q.1.toNat]'(by omega) := by
        congr 1
        omega
      omega
/-- a next ask comes within some moments -/
theorem IsNxt.near {ps : List (Int × Int)} {hs rs : List Int} {st t M : Int} (n : IsNxt ps hs rs st t) (sr : Srt rs) (hp : ∀ p ∈ ps, 1 ≤ p.1 ∧ 1 ≤ p.2 ∧ p.2 ≤ 12) (h12 : hs.length ≤ 12) (ho : ∃ j : Nat, ∃ h : j < hs.length, hs[j] = 1) (h1 : st ≤ M) (h2 : ∀ x ∈ rs, x ≤ M) : t ≤ M + 24 := by
  obtain ⟨j, hj, e⟩ := ho
  obtain ⟨s, hs1, hs2⟩ := open_soon hj e (M + 12)
  have := n.least (M + 12 + (s : Int)) ⟨by omega, fun x hx => by
    obtain ⟨h0, rfl⟩ := last_some hx
    have := h2 _ (List.getElem_mem (l := rs) (n := rs.length - 1) (by omega))
    omega⟩ hs2 (List.all_eq_true.mpr fun q hq => by
    have hq := hp q hq
    unfold apI
    by_cases z : ((rs.length : Nat) : Int) < q.1
    · rw [decide_eq_true z, Bool.true_or]
    · rw [back_at hq.1 (by omega)]
      have := h2 _ (List.getElem_mem (l := rs) (n := rs.length - q.1.toNat) (by omega))
      rw [Bool.or_eq_true]
      exact .inr (decide_eq_true (by omega)))
  omega
theorem snoc_srt {ns : List Int} (h : Srt ns) {st t : Int} (p : Past ns st t) : Srt (ns ++ [t]) := fun i j hi hj hij => by
  rw [List.length_append] at hi hj
  have hj : j < ns.length + 1 := hj
  by_cases z : j < ns.length
  · rw [List.getElem_append_left (by omega), List.getElem_append_left z]
    exact h i j (by omega) z hij
  · have e : j = ns.length := by omega
    subst e
    rw [List.getElem_append_right (Nat.le_refl _)]
    simp only [Nat.sub_self, List.getElem_cons_zero]
    by_cases z2 : i < ns.length
    · rw [List.getElem_append_left z2]
      exact past_srt h p _ (List.getElem_mem z2)
    · rw [List.getElem_append_right (by omega)]
      simp only [show i - ns.length = 0 by omega, List.getElem_cons_zero]
      exact Int.le_refl _
end KP

set_option Elab.async false
set_option maxRecDepth 100000
set_option maxHeartbeats 4000000
set_option linter.all false
/-! Ours: _law_soonest, any number of asks. -/
namespace KP
open PySem PySem.Spec PyProof.Rows L2 Gr GxR
theorem cut_last {ns : List Int} (h : 0 < ns.length) : cutI ns (some (-1)) none = [ns[ns.length - 1]'(by omega)] := by
  unfold cutI
  have e : HT.sIx ns.length 0 (some (-1)) = ns.length - 1 := by
    unfold HT.sIx
    show (if (-1 : Int) < 0 then ((-1 : Int) + ((ns.length : Nat) : Int)).toNat else _) = _
    rw [if_pos (by decide)]
    omega
  rw [e, HT.sIx_none, show ns.length - (ns.length - 1) = 1 by omega]
  rw [List.drop_eq_getElem_cons (by omega)]
  rfl
theorem sql_same {K : PySem.W.Frag} {H H' : Hp} {a : Addr} {xs : List V} (s : Same H H') (h : SqL K H a xs) : SqL K H' a xs := by
  rcases h with (h | ⟨o, h⟩) | h
  · exact .inl (.inl (s _ _ h))
  · exact .inl (.inr ⟨o, s _ _ h⟩)
  · exact .inr h
theorem sqt_same {K : PySem.W.Frag} {H H' : Hp} {a : Addr} {xs : List V} (s : Same H H') (h : SqT K H a xs) : SqT K H' a xs := by
  rcases h with (h | ⟨o, h⟩) | h
  · exact .inl (.inl (s _ _ h))
  · exact .inl (.inr ⟨o, s _ _ h⟩)
  · exact .inr h
def spSoon (K : PySem.W.Frag) : Sp := fun vs H Q _ => ∃ (lv hv : V) (r : Addr) (n st : Int) (ps : List (Int × Int)) (hs ns : List Int), vs = [lv, hv, .ref r, .int n, .int st] ∧ Od H lv (.tuple ((ps.map inD).map tw)) ∧ (∀ p ∈ ps, 1 ≤ p.1 ∧ 1 ≤ p.2 ∧ p.2 ≤ 1000) ∧ Od H hv (.tuple (hs.map PyData.int)) ∧ hs.length ≤ 12 ∧ (∃ j : Nat, ∃ h : j < hs.length, hs[j] = 1) ∧ (SqL K H r (ns.map V.int) ∨ SqT K H r (ns.map V.int)) ∧ ns.length ≤ 1000 ∧ 0 ≤ n ∧ n ≤ 1000 ∧
  ∀ z ts H', Same H H' → H z = none → H' z = some (.lst (ts.map V.int)) → ts.length = n.toNat → SRow ps hs ns st ts → Q (.ref z) H'
section
variable {P : Program} {w : World} {K : PySem.W.Frag} {mg : Str → Option Value} {base : Heap}
theorem sc_soon : FnScope ["_law_pairs", "_law_clock", "_law_row", "_law_number", "_law_start", "_law_line", "_law_turn", "_law_time", "_law_pair", "_law_step"] ["_law_pairs", "_law_clock", "_law_row", "_law_number", "_law_start"] (defScope s_l_soonest) := ⟨rfl, rfl, rfl, by decide +kernel, rfl, by decide +kernel, by decide +kernel⟩
theorem ok_soon (T : D K mg) : FnOk P w K mg base CX0 2 T.f_l_soonest T.d_l_soonest ["_law_pairs", "_law_clock", "_law_row", "_law_number", "_law_start"] (spSoon K) := by
  refine T.U_l_soonest.ok sc_soon (fun vs H Q E h => ?_) (fun cdv A outer s H vs Q E hr h => ?_)
  · obtain ⟨lv, hv, r, n, st, ps, hs, ns, rfl, _⟩ := h
    rfl
  · obtain ⟨lv, hv, r, nn, st, ps, hs, ns, rfl, hL, hp, hH, h12, ⟨j1, hj1, hj2⟩, er, hn, n0, n1, k⟩ := h
    have nd := sc_soon.nd
    have mz : 5000 ≤ sizeLine := by decide
    refine ⟨_, pss_cons (ps_set (i := 5) nd rfl (.inl rfl) (pe_callTy call_list_of (by rfl) T.list (by decide +kernel) (pa_cons (pv 2) pa_nil)))
      (pss_cons (ps_for PassesOwn.never rfl (pi_range1 rfl T.range (pa_cons (pv 3) pa_nil)) (pg_name (i := 6) nd rfl (.inl rfl))
        (pss_cons (ps_set (i := 7) nd rfl (.inl rfl) (pe_callB (cr_max rfl) (by rfl) T.max (by decide +kernel) (pa_cons (pe_op op_cat (pe_lst (pa_cons (pv 4) pa_nil)) (pe_slice sl_list (pv 5) (po_some (pe_un un_neg pe_int)) po_none)) pa_nil)))
        (pss_cons (ps_for PassesOwn.never rfl (pi_tup (pv 0)) (pg_name (i := 8) nd rfl (.inl rfl))
          (pss_one (ps_if (pt_cmpR op_ge (pe_callB call_len_seq (by rfl) T.len PySem.boot_len (pa_cons (pv 5) pa_nil)) (pe_ix ix_tup (pv 8) pe_int (fun _ _ => rfl)) (nomark _))
            (pss_one (ps_set (i := 7) nd rfl (.inl rfl) (pe_callB (call_max2 rfl) (by rfl) T.max boot_max (pa_cons (pv 7) (pa_cons (pe_op op_add (pe_ix ix_list (pv 5) (pe_op op_sub (pe_callB call_len_seq (by rfl) T.len PySem.boot_len (pa_cons (pv 5) pa_nil)) (pe_ix ix_tup (pv 8) pe_int (fun _ _ => rfl))) (fun _ _ => rfl)) (pe_ix ix_tup (pv 8) pe_int (fun _ _ => rfl))) pa_nil)))))
            (pss_nil))))
        (pss_cons (ps_for PassesOwn.never rfl (pi_range1 rfl T.range (pa_cons (pe_callB call_len_seq (by rfl) T.len PySem.boot_len (pa_cons (pv 1) pa_nil)) pa_nil)) (pg_name (i := 9) nd rfl (.inl rfl))
          (pss_one (ps_if (pt_not (pt_val (pe_call (ok_lopen T) hr rfl T.g_l_open T.U_l_open.kp T.b_l_open .nil pass0 (pa_cons (pv 1) (pa_cons (pv 7) pa_nil)))))
            (pss_one (ps_set (i := 7) nd rfl (.inl rfl) (pe_op op_add (pv 7) pe_int)))
            (pss_nil))))
        (pss_one (ps_expr (pe_bm PySem.F.plainAttrs_list PySem.F.slot_list_append PySem.F.type_list_append mt_append (pv 5) (pa_cons (pv 7) pa_nil))))))))
      (pss_one (ps_ret (pe_slice sl_list (pv 5) (po_some (pe_callB call_len_seq (by rfl) T.len PySem.boot_len (pa_cons (pv 2) pa_nil))) po_none)))), ?_⟩
    obtain ⟨ha, rfl, eh⟩ := od_I hH
    obtain ⟨la, ls, rfl, el, ol⟩ := od_tup hL
    have lls : ls.length = ps.length := by rw [ol.len, List.length_map, List.length_map]
    have er' : ∀ H2, Same H H2 → (SqL K H2 r (ns.map V.int) ∨ SqT K H2 r (ns.map V.int)) := fun H2 s2 => er.elim (fun h => .inl (sql_same s2 h)) (fun h => .inr (sqt_same s2 h))
    refine ⟨_, rfl, r, _, rfl, er, fun Ln hLn => gn ?_⟩
    have s1 := same_upd (o := HO.lst (ns.map V.int)) hLn
    have e1 : upd H Ln (.lst (ns.map V.int)) Ln = some (.lst ((ns ++ []).map V.int)) := by rw [upd_same, List.append_nil]
    generalize upd H Ln (.lst (ns.map V.int)) = H1 at *
    dsimp only
    refine ⟨_, rfl, nn, rfl, by omega, by omega, for_range (lo := 0) (n := _) (fun i σ H2 => Same H H2 ∧ ∃ (ts : List Int) (v6 v7 v8 v9 : Option V), H2 Ln = some (.lst ((ns ++ ts).map V.int)) ∧ σ = [some (.ref la), some (.ref ha), some (.ref r), some (.int nn), some (.int st), some (.ref Ln), v6, v7, v8, v9] ∧ ts.length = i ∧ SRow ps hs ns st ts) ⟨s1, [], none, none, none, none, e1, rfl, rfl, SRow.nil⟩ ?_ ?_⟩
    · rintro i σ H2 hi ⟨s2, ts, v6, v7, v8, v9, e2, rfl, lts, srow⟩
      have hi1 : i < 1000 := by omega
      have hrl : (ns ++ ts).length ≤ 2000 := by rw [List.length_append]; omega
      generalize hrs : ns ++ ts = rs at *
      refine ⟨_, rfl, by show 1 ≤ sizeLine; omega, fun c1 hc1 => ?_⟩
      have sa := same_upd (o := HO.lst [V.int st]) hc1
      refine ⟨_, rfl, 1, rfl, _, rfl, ?_⟩
      refine ⟨Ln, _, rfl, SqL.of (sa _ _ e2), fun c2 hc2 => ?_⟩
      rw [cut_I]
      have sb := same_upd (o := HO.lst ((cutI rs (some (-1)) none).map V.int)) hc2
      have lc : (cutI rs (some (-1)) none).length ≤ 2000 := by
        unfold cutI
        rw [List.length_take, List.length_drop]
        omega
      refine ⟨c1, c2, _, _, rfl, rfl, sb _ _ upd_same, upd_same, by rw [List.length_map]; show 1 + _ ≤ sizeLine; omega, fun c3 hc3 => ?_⟩
      have sc := same_upd (o := HO.lst ([V.int st] ++ (cutI rs (some (-1)) none).map V.int)) hc3
      refine ⟨c3, st :: cutI rs (some (-1)) none, rfl, SqL.of upd_same, Nat.succ_pos _, fun m hm hle => gn ?_⟩
      have mpast : Past rs st m := ⟨hle st List.mem_cons_self, fun x hx => hle x (List.mem_cons_of_mem _ (last_in hx))⟩
      have mleast : ∀ u, Past rs st u → m ≤ u := fun u hu => by
        rcases List.mem_cons.mp hm with e | e
        · rw [e]; exact hu.1
        · have h0 : 0 < rs.length := by
            cases hz : rs with
            | nil => rw [hz] at e; cases e
            | cons a l => exact Nat.succ_pos _
          rw [cut_last h0] at e
          rw [List.mem_singleton.mp e]
          exact hu.2 _ (last_at h0)
      have s3 := s2.trans (sa.trans (sb.trans sc))
      have e3 := sc _ _ (sb _ _ (sa _ _ e2))
      have w3 : Same H2 (upd (upd (upd H2 c1 (.lst [V.int st])) c2 (.lst ((cutI rs (some (-1)) none).map V.int))) c3 (.lst ([V.int st] ++ (cutI rs (some (-1)) none).map V.int))) := sa.trans (sb.trans sc)
      generalize upd (upd (upd H2 c1 (.lst [V.int st])) c2 (.lst ((cutI rs (some (-1)) none).map V.int))) c3 (.lst ([V.int st] ++ (cutI rs (some (-1)) none).map V.int)) = H3 at *
      clear sa sb sc hc1 hc2 hc3 e2 hm hle
      dsimp only
      refine ⟨_, rfl, la, rfl, ⟨_, SqT.of (s3 _ _ el)⟩, for_tup (K := K) (a := la) (xs := ls) (fun mm σ H5 => H5 = H3 ∧ ∃ (t : Int) (v8 : Option V), m ≤ t ∧ (∀ j (hj : j < ps.length), j < mm → apI rs t ps[j] = true) ∧ (∀ u, Past rs st u → ps.all (apI rs u) = true → t ≤ u) ∧ σ = [some (.ref la), some (.ref ha), some (.ref r), some (.int nn), some (.int st), some (.ref Ln), some (.int (0 + (i : Int))), some (.int t), v8, v9]) ⟨rfl, m, v8, Int.le_refl _, fun _ _ h => absurd h (Nat.not_lt_zero _), fun u hu _ => mleast u hu, rfl⟩ (fun mm σ H5 _ q => by rw [q.1]; exact SqT.of (s3 _ _ el)) ?_ ?_⟩
      · rintro mm x σ H5 hx ⟨rfl, t, v8, mt, hm, ht, rfl⟩
        obtain ⟨p, b, hpm, rfl, eb⟩ := pair_at ol hx
        obtain ⟨hmp, hpe⟩ := List.getElem?_eq_some_iff.mp hpm
        have hpp := hp p (List.mem_of_getElem? hpm)
        have eb3 := s3 _ _ eb
        refine ifop ?_
        refine ⟨_, rfl, Ln, _, rfl, .inl (SqL.of e3), _, rfl, b, _, _, _, rfl, rfl, SqT.of eb3, rfl, _, _, rfl, rfl, _, rfl, ite2 (fun h => ?_) (fun h => ?_)⟩
        · have h := of_decide_eq_true h
          rw [List.length_map] at h
          obtain ⟨x, hx⟩ := atI_some (ns := rs) hpp.1 (by omega)
          have hb := atI_back hpp.1 h hx
          have hbV := atI_mapV hb
          refine ⟨_, rfl, _, rfl, _, rfl, Ln, _, rfl, .inl (SqL.of e3), _, rfl, b, _, _, _, rfl, rfl, SqT.of eb3, rfl, _, _, rfl, rfl, Ln, _, _, V.int x, rfl, rfl, SqL.of e3, by rw [List.length_map]; exact hbV, _, rfl, b, _, _, _, rfl, rfl, SqT.of eb3, rfl, _, _, rfl, rfl, _, _, rfl, gn ?_⟩
          have hap : ∀ u, x + p.2 ≤ u → apI rs u p = true := fun u hu => by
            unfold apI
            rw [hx, Bool.or_eq_true]
            exact .inr (decide_eq_true (by omega))
          have hmx : t ≤ (if x + p.2 > t then x + p.2 else t) ∧ x + p.2 ≤ (if x + p.2 > t then x + p.2 else t) := by
            split <;> omega
          refine ⟨rfl, _, _, Int.le_trans mt hmx.1, fun j hj hjm => ?_, fun u hu ha => ?_, rfl⟩
          · by_cases z : j = mm
            · subst z
              rw [hpe]
              exact hap _ hmx.2
            · exact ap_mono (hm j hj (by omega)) hmx.1
          · have h1 := ht u hu ha
            have h2 := List.all_eq_true.mp ha p (List.mem_of_getElem? hpm)
            unfold apI at h2
            rw [hx, decide_eq_false (by omega), Bool.false_or] at h2
            have h2 := of_decide_eq_true h2
            split <;> omega
        · have h : ¬ p.1 ≤ (((rs.map V.int).length : Nat) : Int) := fun q => h (decide_eq_true q)
          rw [List.length_map] at h
          refine ⟨rfl, t, _, mt, fun j hj hjm => ?_, ht, rfl⟩
          by_cases z : j = mm
          · subst z
            rw [hpe]
            unfold apI
            rw [decide_eq_true (show ((rs.length : Nat) : Int) < p.1 by omega), Bool.true_or]
          · exact hm j hj (by omega)
      · rintro σ H5 ⟨rfl, t1, v8, mt, hm, ht, rfl⟩
        have hall : ∀ u, t1 ≤ u → ps.all (apI rs u) = true := fun u hu => List.all_eq_true.mpr fun q hq => by
          obtain ⟨j, hj, rfl⟩ := List.getElem_of_mem hq
          exact ap_mono (hm j hj (by rw [lls]; exact hj)) hu
        refine ⟨_, rfl, ha, _, rfl, .inr (SqT.of (s3 _ _ eh)), _, rfl, by omega, by rw [List.length_map]; omega, for_range (lo := 0) (n := _) (fun ss σ H6 => H6 = H5 ∧ ∃ (t : Int) (v9 : Option V), t1 ≤ t ∧ (∀ u, t1 ≤ u → openI hs u = true → t ≤ u) ∧ (openI hs t = true ∨ (t = t1 + ((ss : Nat) : Int) ∧ ∀ s', s' < ss → openI hs (t1 + ((s' : Nat) : Int)) = false)) ∧ σ = [some (.ref la), some (.ref ha), some (.ref r), some (.int nn), some (.int st), some (.ref Ln), some (.int (0 + (i : Int))), some (.int t), v8, v9]) ⟨rfl, t1, v9, Int.le_refl _, fun _ h _ => h, .inr ⟨by omega, fun _ h => absurd h (Nat.not_lt_zero _)⟩, rfl⟩ ?_ ?_⟩
        · rintro ss σ H6 hss ⟨rfl, t, v9, tt, tu, ho, rfl⟩
          refine ⟨_, rfl, _, rfl, .ref ha, hs, t, rfl, hH.same s3, by omega, _, rfl, ?_⟩
          cases h : openI hs t with
          | true => exact iteF ⟨rfl, t, _, tt, tu, .inl h, rfl⟩
          | false =>
            refine iteT ⟨_, rfl, _, _, rfl, rfl, gn ⟨rfl, t + 1, _, by omega, fun u hu hou => ?_, .inr ?_, rfl⟩⟩
            · have := tu u hu hou
              by_cases z : u = t
              · rw [z, h] at hou; cases hou
              · omega
            rcases ho with ho | ⟨et, ho⟩
            · rw [h] at ho; cases ho
            · refine ⟨by omega, fun s' hs2 => ?_⟩
              by_cases z : s' = ss
              · rw [z, ← et]; exact h
              · exact ho s' (by omega)
        · rintro σ H6 ⟨rfl, t, v9, tt, tu, ho, rfl⟩
          have hopen : openI hs t = true := by
            rcases ho with ho | ⟨_, ho⟩
            · exact ho
            · obtain ⟨s0, hs0, hs1⟩ := open_soon hj1 hj2 t1
              have := ho s0 (by
                rw [List.length_map]
                show s0 < ((hs.length : Nat) : Int).toNat
                omega)
              rw [hs1] at this
              cases this
          have hn : IsNxt ps hs rs st t := ⟨⟨Int.le_trans mpast.1 (Int.le_trans mt tt), fun x hx => Int.le_trans (mpast.2 x hx) (Int.le_trans mt tt)⟩, hopen, hall t tt, fun u hu hou ha => tu u (ht u hu ha) hou⟩
          refine ⟨_, rfl, .inl ⟨rfl, _, SqL.of e3⟩, _, rfl, Ln, _, _, rfl, rfl, e3, by rw [List.length_map]; omega, ?_⟩
          refine ⟨same_into hLn s3, ts ++ [t], _, _, _, _, ?_, rfl, by rw [List.length_append, lts]; rfl, SRow.snoc srow (hrs ▸ hn)⟩
          rw [upd_same, ← List.append_assoc, hrs, List.map_append]
          rfl
    · rintro σ H2 ⟨s2, ts, v6, v7, v8, v9, e2, rfl, lts, srow⟩
      refine ⟨_, rfl, _, rfl, r, _, rfl, er' _ s2, _, rfl, ?_⟩
      dsimp only [tNoPart]
      refine ⟨Ln, _, rfl, SqL.of e2, fun z hz => ?_⟩
      have ecut : cutV ((ns ++ ts).map V.int) (some (((ns.map V.int).length : Nat) : Int)) none = ts.map V.int := by
        rw [cutV_from, List.map_append, List.drop_left]
      rw [ecut]
      refine k z ts _ (s2.trans (same_upd hz)) ?_ upd_same lts srow
      cases e : H z with
      | none => rfl
      | some o => rw [s2 _ _ e] at hz; cases hz
end
end KP

set_option Elab.async false
set_option maxRecDepth 100000
set_option maxHeartbeats 4000000
set_option linter.all false
/-! Ours: the law's draws: the well, a pick, one of some things, one sign of a text. -/
namespace KP
open PySem PySem.Spec PyProof.Rows L2 Gr GxR
/-- a well stands at p -/
def Well (H : Hp) (p : Addr) : Prop := ∃ d m c : Int, H p = some (.lst [.int d, .int m, .int c])
/-- all is as it was but what stands at p -/
def But (H H' : Hp) (p : Addr) : Prop := ∀ b o, H b = some o → b ≠ p → H' b = some o
theorem But.trans {H H1 H2 : Hp} {p : Addr} (a : But H H1 p) (b : But H1 H2 p) : But H H2 p := fun c o h n => b c o (a c o h n) n
theorem But.refl (H : Hp) (p : Addr) : But H H p := fun _ _ h _ => h

def spPick : Sp := fun vs H Q _ => ∃ (p : Addr) (t : Int), vs = [.ref p, .int t] ∧ Well H p ∧ 0 < t ∧ t < 1073741824 ∧
  ∀ (r : Int) (H' : Hp), 0 ≤ r → r < t → Well H' p → But H H' p → Q (.int r) H'

section
variable {P : Program} {w : World} {K : PySem.W.Frag} {mg : Str → Option Value} {base : Heap}
theorem scP : FnScope ["_law_well_here", "_law_top", "_law_digit"] ["_law_well_here", "_law_top"] (defScope s_l_pick) := ⟨rfl, rfl, rfl, by decide +kernel, rfl, by decide +kernel, by decide +kernel⟩
theorem ok_l_pick (T : D K mg) : FnOk P w K mg base CX0 1 T.f_l_pick T.d_l_pick ["_law_well_here", "_law_top"] spPick := by
  refine T.U_l_pick.ok scP (fun vs H Q E h => ?_) (fun cdv A outer s H vs Q E hr h => ?_)
  · obtain ⟨p, t, rfl, _⟩ := h
    rfl
  · obtain ⟨p, t, rfl, ⟨d, m, c, hp⟩, ht, ht2, k⟩ := h
    refine ⟨_, pss_cons (ps_if (pt_cmpR op_gt (pe_ix ix_list (pv 0) pe_int (fun _ _ => rfl)) pe_int (nomark _))
        (pss_cons (ps_asg (pe_callB call_divmod (by rfl) T.divmod boot_divmod (pa_cons (pe_ix ix_list (pv 0) pe_int (fun _ _ => rfl)) (pa_cons (pv 1) pa_nil)))
          (pg_tup rfl (pgs_cons (pg_sub (pv 0) pe_int set_list) (pgs_cons (pg_name (i := 2) scP.nd rfl (.inl rfl)) pgs_nil))))
        (pss_one (ps_ret (pv 2)))) pss_nil)
      (pss_cons (ps_asg (pe_op op_add (pe_ix ix_list (pv 0) pe_int (fun _ _ => rfl)) pe_int) (pg_sub (pv 0) pe_int set_list))
      (pss_cons (ps_asg (pe_op op_mod (pe_callTy call_int1 (by rfl) T.int PyProof.Rows.boot_int (pa_cons (pe_op op_add (pe_op op_mul (pe_ix ix_list (pv 0) pe_int (fun _ _ => rfl)) pe_int)
          (pe_op op_mul pe_int (pe_ix ix_list (pv 0) pe_int (fun _ _ => rfl)))) pa_nil)) pe_int) (pg_sub (pv 0) pe_int set_list))
      (pss_one (ps_ret (pe_op op_mod (pe_callTy call_int1 (by rfl) T.int PyProof.Rows.boot_int (pa_cons (pe_op op_fdiv (pe_ix ix_list (pv 0) pe_int (fun _ _ => rfl)) pe_int) pa_nil)) (pv 1)))))), ?_⟩
    have a0 : ∀ x y z : V, atI [x, y, z] (0 : Int) = some x := fun _ _ _ => rfl
    have a1 : ∀ x y z : V, atI [x, y, z] (1 : Int) = some y := fun _ _ _ => rfl
    have a2 : ∀ x y z : V, atI [x, y, z] (2 : Int) = some z := fun _ _ _ => rfl
    refine ⟨_, rfl, p, _, 0, _, rfl, rfl, SqL.of hp, a0 _ _ _, d, 0, rfl, rfl, _, rfl, ?_⟩
    refine ite2 (fun hd => ?_) (fun hd => ?_)
    · refine ⟨_, rfl, p, _, 0, _, rfl, rfl, SqL.of hp, a0 _ _ _, _, rfl, d, t, rfl, ⟨ht, ht2⟩, fun q hq => ?_⟩
      have nq : p ≠ q := ne_of_none hp hq
      refine ⟨q, _, rfl, .inl (.inl upd_same), rfl, _, _, rfl, ?_⟩
      refine ⟨_, rfl, p, _, 0, 0, rfl, rfl, (by rw [upd_ne nq]; exact hp), rfl, ?_⟩
      refine ⟨_, _, rfl, rfl, ?_⟩
      refine ⟨_, rfl, k (d % t) _ (Int.emod_nonneg _ (by omega)) (Int.emod_lt_of_pos _ ht) ⟨d / t, m, c, upd_same⟩ fun b o e n => ?_⟩
      rw [upd_ne n, upd_ne (ne_of_none e hq)]
      exact e
    · refine ⟨_, rfl, p, _, 2, _, rfl, rfl, SqL.of hp, a2 _ _ _, c, 1, rfl, rfl, _, rfl, p, _, 2, 2, rfl, rfl, hp, rfl, ?_⟩
      refine ⟨_, rfl, p, _, 1, _, rfl, rfl, SqL.of upd_same, a1 _ _ _, m, 48271, rfl, rfl, .inr (by decide), _, rfl, p, _, 2, _, rfl, rfl, SqL.of upd_same, a2 _ _ _, 1013, c + 1, rfl, rfl, .inl (by decide), _, _, rfl, rfl, .inl ⟨_, rfl, _, _, rfl, rfl, (by show (0 : Int) < 2038074743; decide), ?_⟩⟩
      refine ⟨_, rfl, p, _, 1, 1, rfl, rfl, upd_same, rfl, ?_⟩
      refine ⟨_, rfl, p, _, 1, _, rfl, rfl, SqL.of upd_same, a1 _ _ _, _, 23, rfl, rfl, ⟨by decide, by decide⟩, .inl ⟨_, rfl, _, rfl, _, t, rfl, rfl, ht, ?_⟩⟩
      refine k _ _ (Int.emod_nonneg _ (by omega)) (Int.emod_lt_of_pos _ ht) ⟨_, _, _, upd_same⟩ fun b o e n => ?_
      rw [upd_ne n, upd_ne n]
      exact e
end
def spOne : Sp := fun vs H Q _ => ∃ (p q : Addr) (xs : List V), vs = [.ref p, .ref q] ∧ Well H p ∧ H q = some (.lst xs) ∧ q ≠ p ∧ 0 < xs.length ∧ xs.length ≤ 1000 ∧
  ∀ (i : Nat) (v : V) (H' : Hp), xs[i]? = some v → Well H' p → But H H' p → Q v H'
def spWell (K : PySem.W.Frag) : Sp := fun vs H Q _ => ∃ (a : Addr) (ns : List Int) (t : Int), vs = [.ref a, .int t] ∧ SqL K H a (ns.map V.int) ∧ 0 ≤ t ∧ ns.length ≤ 1000 ∧
  ∀ (q : Addr) (H' : Hp), H q = none → Well H' q → Same H H' → Q (.ref q) H'

section
variable {P : Program} {w : World} {K : PySem.W.Frag} {mg : Str → Option Value} {base : Heap}
theorem scO : FnScope ["_law_well_here", "_law_some"] ["_law_well_here", "_law_some"] (defScope s_l_one) := ⟨rfl, rfl, rfl, by decide +kernel, rfl, by decide +kernel, by decide +kernel⟩
theorem ok_l_one (T : D K mg) :
    FnOk P w K mg base CX0 2 T.f_l_one T.d_l_one ["_law_well_here", "_law_some"] spOne := by
  refine T.U_l_one.ok scO (fun vs H Q E h => ?_) (fun cdv A outer s H vs Q E hr h => ?_)
  · obtain ⟨p, q, xs, rfl, _⟩ := h
    rfl
  · obtain ⟨p, q, xs, rfl, hp, hq, nq, h0, h1, k⟩ := h
    refine ⟨_, pss_one (ps_ret (pe_ix ix_list (pv 1) (pe_call (ok_l_pick T) hr rfl T.g_l_pick T.U_l_pick.kp T.b_l_pick .nil pass0 (pa_cons (pv 0) (pa_cons (pe_callB call_len_seq (by rfl) T.len PySem.boot_len (pa_cons (pv 1) pa_nil)) pa_nil))) (fun _ _ => rfl))), ?_⟩
    refine ⟨_, rfl, _, rfl, _, rfl, q, xs, rfl, .inl (SqL.of hq), p, (xs.length : Int), rfl, hp, by omega, by omega, fun r H' r0 r1 hw hb => ?_⟩
    have hlt : r.toNat < xs.length := by omega
    have e : atI xs r = some (xs[r.toNat]) := by
      have := atI_nat (xs := xs) (j := r.toNat) (List.getElem?_eq_getElem hlt)
      rw [Int.toNat_of_nonneg r0] at this
      exact this
    exact ⟨q, xs, r, _, rfl, rfl, SqL.of (hb _ _ hq nq), e, k r.toNat _ H' (List.getElem?_eq_getElem hlt) hw hb⟩

theorem scW : FnScope ["_law_script", "_law_turn", "_law_mixed", "_law_each", "_law_cell", "_law_digits"] ["_law_script", "_law_turn"] (defScope s_l_well) := ⟨rfl, rfl, rfl, by decide +kernel, rfl, by decide +kernel, by decide +kernel⟩
theorem ok_l_well (T : D K mg) : FnOk P w K mg base CX0 1 T.f_l_well T.d_l_well ["_law_script", "_law_turn"] (spWell K) := by
  refine T.U_l_well.ok scW (fun vs H Q E h => ?_) (fun cdv A outer s H vs Q E hr h => ?_)
  · obtain ⟨a, ns, t, rfl, _⟩ := h
    rfl
  · obtain ⟨a, ns, t, rfl, hS, h0, hl, k⟩ := h
    refine ⟨_, pss_cons (ps_set (i := 2) scW.nd rfl (.inl rfl) (pe_op op_add pe_int (pe_op op_mul pe_int (pv 1))))
      (pss_cons (ps_for PassesOwn.never rfl (pi_list (pe_slice sl_list (pv 0) po_none (po_some pe_int))) (pg_name (i := 3) scW.nd rfl (.inl rfl))
        (pss_one (ps_set (i := 2) scW.nd rfl (.inl rfl) (pe_op op_mod (pe_callTy call_int1 (by rfl) T.int PyProof.Rows.boot_int (pa_cons
          (pe_op op_add (pe_op op_add (pe_op op_mul (pv 2) pe_int) (pe_op op_mul (pe_op op_mod (pe_callTy call_int1 (by rfl) T.int PyProof.Rows.boot_int (pa_cons (pv 3) pa_nil)) pe_int) pe_int)) pe_int) pa_nil)) pe_int))))
      (pss_cons (ps_set (i := 4) scW.nd rfl (.inl rfl) (pe_ifExp (pt_cmpR op_lt (pv 1) (pe_callB call_len_seq (by rfl) T.len PySem.boot_len (pa_cons (pv 0) pa_nil)) (nomark _))
        (pe_callTy call_int1 (by rfl) T.int PyProof.Rows.boot_int (pa_cons (pe_ix ix_list (pv 0) (pv 1) (fun _ _ => rfl)) pa_nil)) (pv 2)))
      (pss_cons (ps_set (i := 5) scW.nd rfl (.inl rfl) (pe_ifExp (pt_cmpR op_ge (pe_callB call_abs (by rfl) T.abs PyProof.Rows.boot_abs (pa_cons (pv 4) pa_nil)) (pe_op op_pow pe_int pe_int) (nomark _))
        (pe_callB call_abs (by rfl) T.abs PyProof.Rows.boot_abs (pa_cons (pv 4) pa_nil)) pe_int))
      (pss_cons (ps_set (i := 2) scW.nd rfl (.inl rfl) (pe_op op_mod (pe_callTy call_int1 (by rfl) T.int PyProof.Rows.boot_int (pa_cons
          (pe_op op_add (pe_op op_add (pe_op op_mul (pv 2) pe_int) (pe_op op_mul (pe_op op_mod (pe_callTy call_int1 (by rfl) T.int PyProof.Rows.boot_int (pa_cons (pv 4) pa_nil)) pe_int) pe_int)) pe_int) pa_nil)) pe_int))
      (pss_one (ps_ret (pe_lst (pa_cons (pv 5) (pa_cons (pv 2) (pa_cons pe_int pa_nil)))))))))), ?_⟩
    refine ⟨_, rfl, 5003, t, rfl, rfl, .inl (by decide), _, _, rfl, rfl, ?_⟩
    refine ⟨_, rfl, 9, rfl, a, _, rfl, hS, fun p0 hp0 => ?_⟩
    have s0 : Same H (upd H p0 (.lst (cutV (ns.map V.int) none (some 9)))) := fun b o e => by
      rw [upd_ne (ne_of_none e hp0)]
      exact e
    have cutInt : ∀ (i : Nat) (y : V), (cutV (ns.map V.int) none (some 9))[i]? = some y → ∃ z, y = V.int z := fun i y hy => by
      have hm := List.mem_of_mem_drop (List.mem_of_mem_take (List.mem_of_getElem? hy))
      obtain ⟨z, _, e⟩ := List.mem_map.mp hm
      exact ⟨z, e.symm⟩
    refine ⟨p0, rfl, ⟨_, SqL.of upd_same⟩, for_list (K := K) (a := p0) (xs := cutV (ns.map V.int) none (some 9))
      (fun i σ H2 => ∃ (m : Int) (v : Option V), σ = [some (.ref a), some (.int t), some (.int m), v, none, none] ∧ H2 = upd H p0 (.lst (cutV (ns.map V.int) none (some 9))))
      ⟨_, none, rfl, rfl⟩ (fun i σ H2 _ ⟨_, _, _, e⟩ => by rw [e]; exact SqL.of upd_same) ?_ ?_⟩
    · rintro i y σ H2 hi ⟨m, v, rfl, rfl⟩
      obtain ⟨z, rfl⟩ := cutInt i y hi
      have hP : (0 : Int) < 2038074743 := by decide
      exact ⟨_, rfl, m, 30011, rfl, rfl, .inr (by decide), _, rfl, .inl ⟨z, rfl, z, 2038074743, rfl, rfl, hP, _, 7001, rfl, rfl, .inr (by decide), _, _, rfl, rfl, _, 13, rfl, rfl,
        .inl ⟨_, rfl, _, 2038074743, rfl, rfl, hP, _, _, rfl, rfl⟩⟩⟩
    · rintro σ H2 ⟨m, v, rfl, rfl⟩
      have hP : (0 : Int) < 2038074743 := by decide
      refine ⟨_, rfl, _, rfl, a, _, rfl, .inl (s0.seq hS), t, _, rfl, rfl, _, rfl, ?_⟩
      refine ite2 (fun hlt => ?_) (fun _ => ?_)
      · have hlt' : t < ((ns.map V.int).length : Int) := of_decide_eq_true hlt
        rw [List.length_map] at hlt'
        have hj : t.toNat < (ns.map V.int).length := by
          rw [List.length_map]
          omega
        have e : atI (ns.map V.int) t = some (.int (ns[t.toNat]'(by omega))) := by
          have q := atI_nat (xs := ns.map V.int) (j := t.toNat) (List.getElem?_eq_getElem hj)
          rw [Int.toNat_of_nonneg h0, List.getElem_map] at q
          exact q
        refine ⟨_, rfl, _, rfl, a, _, t, _, rfl, rfl, s0.seq hS, e, .inl ⟨_, rfl, ?_⟩⟩
        refine ⟨_, rfl, _, rfl, 10, 18, rfl, rfl, ⟨by decide, by decide, by decide⟩, _, _, rfl, rfl, _, rfl, ?_⟩
        refine ite2 (fun _ => ?_) (fun _ => ?_)
        · refine ⟨_, rfl, _, rfl, ?_⟩
          exact ⟨_, rfl, _, 16807, rfl, rfl, .inr (by decide), _, rfl, .inl ⟨_, rfl, _, 2038074743, rfl, rfl, hP, _, 39373, rfl, rfl, .inr (by decide), _, _, rfl, rfl, _, 29, rfl, rfl,
            .inl ⟨_, rfl, _, 2038074743, rfl, rfl, hP, _, rfl, _, rfl, by show 3 ≤ sizeLine; decide, fun p1 hp1 => k p1 _ (s0.free hp1) ⟨_, _, _, upd_same⟩ (s0.trans fun b o e => by rw [upd_ne (ne_of_none e hp1)]; exact e)⟩⟩⟩
        · exact ⟨_, rfl, _, 16807, rfl, rfl, .inr (by decide), _, rfl, .inl ⟨_, rfl, _, 2038074743, rfl, rfl, hP, _, 39373, rfl, rfl, .inr (by decide), _, _, rfl, rfl, _, 29, rfl, rfl,
            .inl ⟨_, rfl, _, 2038074743, rfl, rfl, hP, _, rfl, _, rfl, by show 3 ≤ sizeLine; decide, fun p1 hp1 => k p1 _ (s0.free hp1) ⟨_, _, _, upd_same⟩ (s0.trans fun b o e => by rw [upd_ne (ne_of_none e hp1)]; exact e)⟩⟩⟩
      · refine ⟨_, rfl, ?_⟩
        refine ⟨_, rfl, _, rfl, 10, 18, rfl, rfl, ⟨by decide, by decide, by decide⟩, _, _, rfl, rfl, _, rfl, ?_⟩
        refine ite2 (fun _ => ?_) (fun _ => ?_)
        · refine ⟨_, rfl, _, rfl, ?_⟩
          exact ⟨_, rfl, _, 16807, rfl, rfl, .inr (by decide), _, rfl, .inl ⟨_, rfl, _, 2038074743, rfl, rfl, hP, _, 39373, rfl, rfl, .inr (by decide), _, _, rfl, rfl, _, 29, rfl, rfl,
            .inl ⟨_, rfl, _, 2038074743, rfl, rfl, hP, _, rfl, _, rfl, by show 3 ≤ sizeLine; decide, fun p1 hp1 => k p1 _ (s0.free hp1) ⟨_, _, _, upd_same⟩ (s0.trans fun b o e => by rw [upd_ne (ne_of_none e hp1)]; exact e)⟩⟩⟩
        · exact ⟨_, rfl, _, 16807, rfl, rfl, .inr (by decide), _, rfl, .inl ⟨_, rfl, _, 2038074743, rfl, rfl, hP, _, 39373, rfl, rfl, .inr (by decide), _, _, rfl, rfl, _, 29, rfl, rfl,
            .inl ⟨_, rfl, _, 2038074743, rfl, rfl, hP, _, rfl, _, rfl, by show 3 ≤ sizeLine; decide, fun p1 hp1 => k p1 _ (s0.free hp1) ⟨_, _, _, upd_same⟩ (s0.trans fun b o e => by rw [upd_ne (ne_of_none e hp1)]; exact e)⟩⟩⟩
end

/-- one sign of a text -/
def spOneS : Sp := fun vs H Q _ => ∃ (p : Addr) (z : Str), vs = [.ref p, .str z] ∧ Well H p ∧ 0 < z.length ∧ z.length ≤ 1000 ∧
  ∀ (c : Nat) (H' : Hp), c ∈ z.cps.toList → Well H' p → But H H' p → Q (.str ⟨#[c]⟩) H'
section
variable {P : Program} {w : World} {K : PySem.W.Frag} {mg : Str → Option Value} {base : Heap}
theorem ok_l_oneS (T : D K mg) : FnOk P w K mg base CX0 2 T.f_l_one T.d_l_one ["_law_well_here", "_law_some"] spOneS := by
  refine T.U_l_one.ok scO (fun vs H Q E h => ?_) (fun cdv A outer s H vs Q E hr h => ?_)
  · obtain ⟨p, z, rfl, _⟩ := h
    rfl
  · obtain ⟨p, z, rfl, hp, h0, h1, k⟩ := h
    refine ⟨_, pss_one (ps_ret (pe_ix ix_str (pv 1) (pe_call (ok_l_pick T) hr rfl T.g_l_pick T.U_l_pick.kp T.b_l_pick .nil pass0 (pa_cons (pv 0) (pa_cons (pe_callB call_len_str (by rfl) T.len PySem.boot_len (pa_cons (pv 1) pa_nil)) pa_nil))) (fun _ _ => rfl))), ?_⟩
    refine ⟨_, rfl, _, rfl, _, rfl, z, rfl, Nat.le_trans h1 (by decide), ?_⟩
    refine ⟨p, _, rfl, hp, by omega, by omega, fun r H' r0 r1 hw hb => ?_⟩
    have hlt : r.toNat < z.cps.toList.length := by
      have e : z.cps.toList.length = z.length := rfl
      omega
    have e : atI z.cps.toList r = some (z.cps.toList[r.toNat]) := by
      have := atI_nat (xs := z.cps.toList) (j := r.toNat) (List.getElem?_eq_getElem hlt)
      rw [Int.toNat_of_nonneg r0] at this
      exact this
    exact ⟨z, r, _, rfl, rfl, Nat.le_trans h1 (by decide), e, k _ H' (List.getElem_mem hlt) hw hb⟩
end
end KP

set_option Elab.async false
set_option maxRecDepth 100000
set_option maxHeartbeats 4000000
set_option linter.all false
/-! Ours: drawn limits and hours. -/
namespace KP
open PySem PySem.Spec PyProof.Rows L2 Gr GxR
/-- a value drawn from the well at p -/
def Drawn (H : Hp) (p : Addr) (R : PyData → Prop) (Q : VK) : Prop := ∀ v d H', But H H' p → Well H' p → Od (hide H' [p]) v d → R d → Q v H'
theorem well_ne {H : Hp} {p q : Addr} (w : Well H p) (h : H q = none) : q ≠ p := fun z => by
  obtain ⟨_, _, _, e⟩ := w
  rw [z, e] at h
  cases h
theorem Well.same {H H1 : Hp} {p : Addr} (w : Well H p) (s : Same H H1) : Well H1 p := let ⟨a, b, c, e⟩ := w; ⟨a, b, c, s _ _ e⟩
theorem Well.put {H : Hp} {p q : Addr} {o : HO} (w : Well H p) (n : q ≠ p) : Well (upd H q o) p := let ⟨a, b, c, e⟩ := w; ⟨a, b, c, (upd_ne (Ne.symm n)).trans e⟩
theorem But.same' {H H1 : Hp} {p : Addr} (s : Same H H1) : But H H1 p := fun b o e _ => s b o e
theorem But.put {H H1 : Hp} {p D : Addr} {o : HO} (b : But H H1 p) (n : H D = none) : But H (upd H1 D o) p := fun x o' e nx => by
  rw [upd_ne (ne_of_none e n)]
  exact b x o' e nx
theorem hide_put {H H1 : Hp} {p D : Addr} {o : HO} (b : But H H1 p) : Same (hide H [p, D]) (hide (upd H1 D o) [p, D]) := fun a x e => by
  unfold hide at e ⊢
  split at e
  · cases e
  · rename_i z
    rw [if_neg z, upd_ne (fun q => z (by rw [q]; simp))]
    exact b a x e fun q => z (by rw [q]; simp)
theorem hide_one {H : Hp} {p D : Addr} : Same (hide H [p, D]) (hide H [p]) := fun a x e => by
  unfold hide at e ⊢
  split at e
  · cases e
  · rename_i z
    rw [if_neg fun q => z (by rw [List.mem_singleton.mp q]; simp)]
    exact e
theorem hide_but {H H1 : Hp} {p : Addr} (b : But H H1 p) : Same (hide H [p]) (hide H1 [p]) := fun a x e => by
  unfold hide at e ⊢
  split at e
  · cases e
  · rename_i z
    rw [if_neg z]
    exact b a x e fun q => z (by rw [q]; simp)
theorem hide_at2 {H : Hp} {p D a : Addr} {o : HO} (e : H a = some o) (h1 : a ≠ p) (h2 : a ≠ D) : hide H [p, D] a = some o := hide_at e (by simp [h1, h2])
theorem hide_at1 {H : Hp} {p a : Addr} {o : HO} (e : H a = some o) (h1 : a ≠ p) : hide H [p] a = some o := hide_at e (by simp [h1])
def limR : PyData → Prop := fun d => ∃ ps, d = .tuple (ps.map prD) ∧ Lim ps
def spSomeLim : Sp := fun vs H Q _ => ∃ (p : Addr) (tp wd : Int), vs = [.ref p, .int tp, .int wd] ∧ Well H p ∧ 0 < tp ∧ tp ≤ 6 ∧ 0 < wd ∧ wd ≤ 12 ∧ Drawn H p limR Q
section
variable {P : Program} {w : World} {K : PySem.W.Frag} {mg : Str → Option Value} {base : Heap}
theorem sc_slim : FnScope ["_law_well_here", "_law_top", "_law_width", "_law_number", "_law_turn"] ["_law_well_here", "_law_top", "_law_width"] (defScope s_l_some_limits) := ⟨rfl, rfl, rfl, by decide +kernel, rfl, by decide +kernel, by decide +kernel⟩
theorem ok_slim (T : D K mg) : FnOk P w K mg base CX0 3 T.f_l_some_limits T.d_l_some_limits ["_law_well_here", "_law_top", "_law_width"] spSomeLim := by
  refine T.U_l_some_limits.ok sc_slim (fun vs H Q E h => ?_) (fun cdv A outer s H vs Q E hr h => ?_)
  · obtain ⟨p, tp, wd, rfl, _⟩ := h
    rfl
  · obtain ⟨p, tp, wd, rfl, hp, t0, t1, w0, w1, k⟩ := h
    have nd := sc_slim.nd
    have mz : 5000 ≤ sizeLine := by decide
    refine ⟨_, pss_cons (ps_set (i := 3) nd rfl (.inl rfl) (pe_call (ok_l_one T) hr rfl T.g_l_one T.U_l_one.kp T.b_l_one .nil pass0 (pa_cons (pv 0) (pa_cons (pe_lst (pa_cons pe_int (pa_cons pe_int (pa_cons pe_int (pa_cons pe_int (pa_cons pe_int (pa_cons pe_int (pa_cons pe_int (pa_cons pe_int (pa_cons pe_int pa_nil)))))))))) pa_nil))))
      (pss_one (ps_ret (pe_callTy call_tuple_of (by rfl) T.tuple (by decide +kernel) (pa_cons (pe_lc (own := [("_law_turn", 4)]) (g := gName 4) (tt := tYes) rfl nd (pi_range1 rfl T.range (pa_cons (pv 3) pa_nil)) (blkOk_by (N := ["_law_well_here", "_law_top", "_law_width", "_law_number", "_law_turn"]) (sc := defScope s_l_some_limits) (by decide +kernel)) (fun _ _ _ _ _ => pg_name (i := 4) nd rfl (.inl rfl)) (fun _ _ _ _ _ => pts_nil) (fun _ _ _ _ _ => pe_tup (pa_cons (pe_op op_add pe_int (pe_call (ok_l_pick T) (hr.mono (by decide)) rfl T.g_l_pick T.U_l_pick.kp T.b_l_pick .nil pass0 (pa_cons (pv 0) (pa_cons (pv 1) pa_nil)))) (pa_cons (pe_op op_add pe_int (pe_call (ok_l_pick T) (hr.mono (by decide)) rfl T.g_l_pick T.U_l_pick.kp T.b_l_pick .nil pass0 (pa_cons (pv 0) (pa_cons (pv 2) pa_nil)))) pa_nil)))) pa_nil)))), ?_⟩
    refine ⟨_, rfl, by show 9 ≤ sizeLine; omega, fun q hq => ?_⟩
    have sq := same_upd (o := HO.lst [V.int 1, V.int 1, V.int 1, V.int 2, V.int 2, V.int 2, V.int 3, V.int 4, V.int 0]) hq
    refine ⟨p, q, _, rfl, hp.same sq, upd_same, well_ne hp hq, by decide, by decide, fun i v H1 hv w1' b1 => ?_⟩
    obtain ⟨n, rfl, n0, n4⟩ : ∃ n : Int, v = .int n ∧ 0 ≤ n ∧ n ≤ 4 := by
      have hm := List.mem_of_getElem? hv
      simp only [List.mem_cons, List.not_mem_nil, or_false] at hm
      rcases hm with rfl | rfl | rfl | rfl | rfl | rfl | rfl | rfl | rfl <;> exact ⟨_, rfl, by decide, by decide⟩
    have b01 : But H H1 p := (But.same' sq).trans b1
    refine gn ?_
    dsimp only
    refine ⟨_, rfl, n, rfl, by omega, by omega, fun D hD => lc_range (fun i Hx => But H1 Hx p ∧ Well Hx p ∧ ∃ (vs : List V) (ps : List (Int × Int)), Hx D = some (.lst vs) ∧ vs.length = i ∧ ps.length = i ∧ OdAll (hide Hx [p, D]) vs (ps.map prD) ∧ ∀ p ∈ ps, 1 ≤ p.1 ∧ p.1 ≤ 6 ∧ 1 ≤ p.2 ∧ p.2 ≤ 12)
      ⟨But.same' (same_upd hD), w1'.same (same_upd hD), [], [], upd_same, rfl, rfl, .nil, fun _ h => nomatch h⟩ ?_ ?_⟩
    · rintro i Hx hi ⟨bx, wx, vs, ps, ev, lv, lp, ov, hps⟩
      have nDp := well_ne w1' hD
      refine ⟨rfl, ?_⟩
      unfold tYes
      dsimp only
      rw [if_pos rfl]
      refine ⟨_, rfl, _, rfl, p, tp, rfl, wx, t0, by omega, fun r H3 r0 r1 w3 b3 => ⟨_, _, rfl, rfl, _, rfl, _, rfl, p, wd, rfl, w3, w0, by omega, fun r' H4 r0' r1' w4 b4 => ⟨_, _, rfl, rfl, by show 2 ≤ sizeLine; omega, fun t ht => ?_⟩⟩⟩
      have b34 := b3.trans b4
      have e4 : H4 D = some (.lst vs) := b34 _ _ ev nDp
      have st := same_upd (o := HO.tup [V.int (1 + r), V.int (1 + r')]) ht
      have ntp := well_ne w4 ht
      have ntD : t ≠ D := fun z => by rw [z, e4] at ht; cases ht
      refine ⟨_, st _ _ e4, by omega, (bx.trans (b34.trans (But.same' st))).put hD, (w4.same st).put nDp, _, ps ++ [(1 + r, 1 + r')], upd_same, by rw [List.length_append, lv]; rfl, by rw [List.length_append, lp]; rfl, ?_, fun x hx => ?_⟩
      · rw [List.map_append]
        refine (ov.same (hide_put (b34.trans (But.same' st)))).app (.cons (.tup (hide_at2 ((upd_ne ntD).trans upd_same) ntp ntD) (.cons (.int _) (.cons (.int _) .nil))) .nil)
      · rcases List.mem_append.mp hx with z | z
        · exact hps x z
        · rw [List.mem_singleton.mp z]
          show 1 ≤ 1 + r ∧ 1 + r ≤ 6 ∧ 1 ≤ 1 + r' ∧ 1 + r' ≤ 12
          omega
    · rintro Hx ⟨bx, wx, vs, ps, ev, lv, lp, ov, hps⟩
      refine ⟨D, vs, rfl, .inl ⟨SqL.of ev, fun R hR => ?_⟩⟩
      have sR := same_upd (o := HO.tup vs) hR
      exact k _ (.tuple (ps.map prD)) _ (b01.trans (bx.trans (But.same' sR))) (wx.same sR) (.tup (hide_at1 upd_same (well_ne wx hR)) ((ov.same hide_one).same (same_hide _ sR))) ⟨ps, rfl, by omega, hps⟩
end
end KP

set_option Elab.async false
set_option maxRecDepth 100000
set_option maxHeartbeats 4000000
set_option linter.all false
/-! Ours: drawn hours. -/
namespace KP
open PySem PySem.Spec PyProof.Rows L2 Gr GxR
theorem ixN_in {n : Nat} {r : Int} (h0 : 0 ≤ r) (h1 : r < n) : ixN n r = some r.toNat := by
  unfold ixN
  rw [if_pos h0, if_pos h1]
def hrsR : PyData → Prop := fun d => ∃ hs : List Int, d = .tuple (hs.map PyData.int) ∧ 0 < hs.length ∧ hs.length ≤ 12 ∧ (∀ h ∈ hs, 0 ≤ h ∧ h ≤ 1) ∧ ∃ j : Nat, ∃ h : j < hs.length, hs[j] = 1
def spSomeHrs : Sp := fun vs H Q _ => ∃ (p : Addr) (tp : Int), vs = [.ref p, .int tp] ∧ Well H p ∧ 0 < tp ∧ tp ≤ 12 ∧ Drawn H p hrsR Q
section
variable {P : Program} {w : World} {K : PySem.W.Frag} {mg : Str → Option Value} {base : Heap}
theorem sc_shrs : FnScope ["_law_well_here", "_law_top", "_law_row", "_law_turn"] ["_law_well_here", "_law_top"] (defScope s_l_some_hours) := ⟨rfl, rfl, rfl, by decide +kernel, rfl, by decide +kernel, by decide +kernel⟩
theorem ok_shrs (T : D K mg) : FnOk P w K mg base CX0 3 T.f_l_some_hours T.d_l_some_hours ["_law_well_here", "_law_top"] spSomeHrs := by
  refine T.U_l_some_hours.ok sc_shrs (fun vs H Q E h => ?_) (fun cdv A outer s H vs Q E hr h => ?_)
  · obtain ⟨p, tp, rfl, _⟩ := h
    rfl
  · obtain ⟨p, tp, rfl, hp, t0, t1, k⟩ := h
    have nd := sc_shrs.nd
    have mz : 5000 ≤ sizeLine := by decide
    refine ⟨_, pss_cons (ps_setLc (i := 2) (own := [("_law_turn", 3)]) (g := gName 3) (tt := tYes) rfl nd rfl rfl (sw_true rfl rfl rfl (by decide +kernel)) (pi_range1 rfl T.range (pa_cons (pe_op op_add pe_int (pe_call (ok_l_pick T) (hr.mono (by decide)) rfl T.g_l_pick T.U_l_pick.kp T.b_l_pick .nil pass0 (pa_cons (pv 0) (pa_cons (pv 1) pa_nil)))) pa_nil)) (blkOk_by (N := ["_law_well_here", "_law_top", "_law_row", "_law_turn"]) (sc := defScope s_l_some_hours) (by decide +kernel)) (fun _ _ _ _ _ => pg_name (i := 3) nd rfl (.inl rfl)) (fun _ _ _ _ _ => pts_nil) (fun _ _ _ _ _ => pe_call (ok_l_one T) hr rfl T.g_l_one T.U_l_one.kp T.b_l_one .nil pass0 (pa_cons (pv 0) (pa_cons (pe_lst (pa_cons pe_int (pa_cons pe_int (pa_cons pe_int pa_nil)))) pa_nil))))
      (pss_cons (ps_asg pe_int (pg_sub (pv 2) (pe_call (ok_l_pick T) (hr.mono (by decide)) rfl T.g_l_pick T.U_l_pick.kp T.b_l_pick .nil pass0 (pa_cons (pv 0) (pa_cons (pe_callB call_len_seq (by rfl) T.len PySem.boot_len (pa_cons (pv 2) pa_nil)) pa_nil))) set_list))
      (pss_one (ps_ret (pe_callTy call_tuple_of (by rfl) T.tuple (by decide +kernel) (pa_cons (pv 2) pa_nil))))), ?_⟩
    refine ⟨_, rfl, _, rfl, p, tp, rfl, hp, t0, by omega, fun n H1 n0 n1 w1 b1 => ⟨_, _, rfl, rfl, ?_⟩⟩
    refine ⟨_, rfl, by omega, by omega, fun D hD => lc_range (fun i Hx => But H1 Hx p ∧ Well Hx p ∧ ∃ ns : List Int, Hx D = some (.lst (ns.map V.int)) ∧ ns.length = i ∧ ∀ h ∈ ns, 0 ≤ h ∧ h ≤ 1)
      ⟨But.same' (same_upd hD), w1.same (same_upd hD), [], upd_same, rfl, fun _ h => nomatch h⟩ ?_ ?_⟩
    · rintro i Hx hi ⟨bx, wx, ns, ev, lv, nv⟩
      have nDp := well_ne w1 hD
      refine ⟨rfl, ?_⟩
      unfold tYes
      dsimp only
      rw [if_pos rfl]
      refine ⟨_, rfl, by show 3 ≤ sizeLine; omega, fun q hq => ?_⟩
      have sq := same_upd (o := HO.lst [V.int 1, V.int 1, V.int 0]) hq
      refine ⟨p, q, _, rfl, wx.same sq, upd_same, well_ne wx hq, by decide, by decide, fun j v H3 hv w3 b3 => ?_⟩
      obtain ⟨m, rfl, hm01⟩ : ∃ m : Int, v = .int m ∧ 0 ≤ m ∧ m ≤ 1 := by
        have hm := List.mem_of_getElem? hv
        simp only [List.mem_cons, List.not_mem_nil, or_false] at hm
        rcases hm with rfl | rfl | rfl <;> exact ⟨_, rfl, by decide, by decide⟩
      have bq := (But.same' sq).trans b3
      exact ⟨_, bq _ _ ev nDp, by rw [List.length_map]; omega, (bx.trans bq).put hD, w3.put nDp, ns ++ [m], by rw [upd_same, List.map_append]; rfl, by rw [List.length_append, lv]; rfl, fun h hh => by
        rcases List.mem_append.mp hh with q | q
        · exact nv h q
        · rw [List.mem_singleton.mp q]; exact hm01⟩
    · rintro Hx ⟨bx, wx, ns, ev, lv, nv⟩
      have nDp := well_ne w1 hD
      refine gn ?_
      dsimp only
      refine ⟨_, rfl, _, rfl, _, rfl, D, _, rfl, .inl (SqL.of ev), p, _, rfl, wx, by rw [List.length_map]; omega, by rw [List.length_map]; omega, fun r H3 r0 r1 w3 b3 => ?_⟩
      rw [List.length_map] at r1
      have e3 := b3 _ _ ev nDp
      refine ⟨D, _, r, r.toNat, rfl, rfl, e3, ixN_in r0 (by rw [List.length_map]; omega), ?_⟩
      refine ⟨_, rfl, D, _, rfl, .inl ⟨SqL.of upd_same, fun R hR => ?_⟩⟩
      have e5 : (ns.map V.int).set r.toNat (.int 1) = (ns.set r.toNat 1).map V.int := by rw [List.map_set]
      rw [e5] at hR ⊢
      have wD : Well (upd H3 D (.lst ((ns.set r.toNat 1).map V.int))) p := w3.put nDp
      have sR := same_upd (o := HO.tup ((ns.set r.toNat 1).map V.int)) hR
      refine k _ (.tuple ((ns.set r.toNat 1).map PyData.int)) _ (b1.trans (((bx.trans b3).put hD).trans (But.same' sR))) (wD.same sR) (.tup (hide_at1 upd_same (well_ne wD hR)) (ints_od _)) ⟨_, rfl, by rw [List.length_set]; omega, by rw [List.length_set]; omega, fun h hh => ?_, r.toNat, by rw [List.length_set]; omega, List.getElem_set_self _⟩
      rcases List.mem_or_eq_of_mem_set hh with q | q
      · exact nv h q
      · rw [q]; exact ⟨by decide, by decide⟩
end
end KP

set_option Elab.async false
set_option maxRecDepth 100000
set_option maxHeartbeats 4000000
set_option linter.all false
/-! Ours: a drawn row of polite asks. -/
namespace KP
open PySem PySem.Spec PyProof.Rows L2 Gr GxR
theorem asc_snoc : ∀ {l : List Int} {m t : Int}, asc m l → (∀ x ∈ l, x ≤ t) → m ≤ t → asc m (l ++ [t])
  | [], m, t, _, _, h => ⟨h, trivial⟩
  | n :: l, m, t, a, h, _ => ⟨a.1, asc_snoc a.2 (fun x hx => h x (List.mem_cons_of_mem _ hx)) (h n List.mem_cons_self)⟩
theorem le_last {ns : List Int} {t : Int} (hs : Srt ns) (h : ∀ x, atI ns (-1) = some x → x ≤ t) : ∀ x ∈ ns, x ≤ t := fun x hx => by
  obtain ⟨i, hi, rfl⟩ := List.getElem_of_mem hx
  have e : atI ns (-1) = some ns[ns.length - 1] := by
    unfold atI ixN
    rw [if_neg (by omega), if_pos (by omega)]
    show ns[(-1 + ((ns.length : Nat) : Int)).toNat]? = _
    rw [show (-1 + ((ns.length : Nat) : Int)).toNat = ns.length - 1 by omega]
    exact List.getElem?_eq_getElem (by omega)
  have := h _ e
  have := hs i (ns.length - 1) hi (by omega) (by omega)
  omega
def Polite (ps : List (Int × Int)) (hs ns : List Int) : Prop := ∀ j, j < ns.length → politeAt ps hs ns j = true
theorem polite_snoc {ps : List (Int × Int)} {hs ns : List Int} {t : Int} (h : Polite ps hs ns) (ho : openI hs t = true) (ha : ps.all (apI ns t) = true) : Polite ps hs (ns ++ [t]) := fun j hj => by
  rw [List.length_append] at hj
  have hj : j < ns.length + 1 := hj
  by_cases z : j < ns.length
  · have := h j z
    unfold politeAt at this ⊢
    rw [List.getD_eq_getElem?_getD] at this ⊢
    rw [List.getElem?_append_left z, List.take_append_of_le_length (by omega)]
    exact this
  · have e : j = ns.length := by omega
    subst e
    unfold politeAt
    rw [List.getD_eq_getElem?_getD, List.getElem?_append_right (Nat.le_refl _), Nat.sub_self, List.take_left]
    show (openI hs t && ps.all (apI ns t)) = true
    rw [ho, ha]
    rfl
def rowR (ps : List (Int × Int)) (hs : List Int) (n : Nat) : PyData → Prop := fun d => ∃ ns : List Int, d = .tuple (ns.map PyData.int) ∧ asc 0 ns ∧ ns.length = n ∧ Polite ps hs ns ∧ ∀ x ∈ ns, x ≤ 1100 * ((ns.length : Nat) : Int)
def spSomeRow : Sp := fun vs H Q _ => ∃ (p : Addr) (lv hv : V) (ps : List (Int × Int)) (hs : List Int) (n tp : Int), vs = [.ref p, lv, hv, .int n, .int tp] ∧ Well H p ∧ Od (hide H [p]) lv (.tuple ((ps.map inD).map tw)) ∧ (∀ p ∈ ps, 1 ≤ p.1 ∧ 1 ≤ p.2 ∧ p.2 ≤ 12) ∧ Od (hide H [p]) hv (.tuple (hs.map PyData.int)) ∧ hs.length ≤ 12 ∧ (∃ j : Nat, ∃ h : j < hs.length, hs[j] = 1) ∧ 0 ≤ n ∧ n ≤ 100 ∧ 0 ≤ tp ∧ tp ≤ 1000 ∧ Drawn H p (rowR ps hs n.toNat) Q
section
variable {P : Program} {w : World} {K : PySem.W.Frag} {mg : Str → Option Value} {base : Heap}
end
end KP

set_option Elab.async false
set_option maxRecDepth 100000
set_option linter.all false
/-! Ours: the first wrong ask: other orders, cuts, one more, shifts. -/
namespace KP
open PySem PySem.Spec PyProof.Rows L2 Gr GxR
theorem first_some {ps : List (Int × Int)} {hs ns : List Int} {i : Nat} (h : firstI ps hs ns = some i) : i < ns.length ∧ politeAt ps hs ns i = false ∧ ∀ j, j < i → politeAt ps hs ns j = true := by
  unfold firstI at h
  rw [List.find?_range_eq_some] at h
  obtain ⟨h1, h2, h3⟩ := h
  refine ⟨List.mem_range.mp h2, by cases e : politeAt ps hs ns i <;> simp_all, fun j hj => ?_⟩
  have := h3 j hj
  cases e : politeAt ps hs ns j <;> simp_all
theorem first_no {ps : List (Int × Int)} {hs ns : List Int} (h : firstI ps hs ns = none) : Polite ps hs ns := fun j hj => by
  unfold firstI at h
  rw [List.find?_eq_none] at h
  have := h j (List.mem_range.mpr hj)
  cases e : politeAt ps hs ns j <;> simp_all
/-- rows that are wrong at the same places have one first wrong place -/
theorem first_congr {ps ps' : List (Int × Int)} {hs hs' ns ns' : List Int} (hl : ns.length = ns'.length) (h : ∀ j, j < ns.length → politeAt ps hs ns j = politeAt ps' hs' ns' j) : firstI ps hs ns = firstI ps' hs' ns' := by
  cases e : firstI ps' hs' ns' with
  | none =>
    have q := first_no e
    exact first_none fun j hj => by rw [h j hj]; exact q j (by omega)
  | some i =>
    obtain ⟨h1, h2, h3⟩ := first_some e
    exact first_at (by omega) (fun j hj => by rw [h j (by omega)]; exact h3 j hj) (by rw [h i (by omega)]; exact h2)
theorem first_rev (ps : List (Int × Int)) (hs ns : List Int) : firstI ps.reverse hs ns = firstI ps hs ns :=
  first_congr rfl fun j _ => by unfold politeAt; rw [List.all_reverse]
theorem polite_take {ps : List (Int × Int)} {hs ns : List Int} {m j : Nat} (hj : j < m) (hl : j < ns.length) : politeAt ps hs (ns.take m) j = politeAt ps hs ns j := by
  unfold politeAt
  have e : (ns.take m).getD j 0 = ns.getD j 0 := by
    rw [List.getD_eq_getElem?_getD, List.getD_eq_getElem?_getD, List.getElem?_take_of_lt hj]
  rw [e, List.take_take, Nat.min_eq_left (by omega)]
theorem first_take {ps : List (Int × Int)} {hs ns : List Int} {m : Nat} (hm : m ≤ ns.length) : firstI ps hs (ns.take m) = (match firstI ps hs ns with
    | some i => if i < m then some i else none
    | none => none) := by
  have hl : (ns.take m).length = m := by rw [List.length_take]; omega
  cases e : firstI ps hs ns with
  | none =>
    have q := first_no e
    exact first_none fun j hj => by
      rw [hl] at hj
      rw [polite_take hj (by omega)]
      exact q j (by omega)
  | some i =>
    obtain ⟨h1, h2, h3⟩ := first_some e
    show _ = if i < m then some i else none
    by_cases z : i < m
    · rw [if_pos z]
      exact first_at (by omega) (fun j hj => by rw [polite_take (by omega) (by omega)]; exact h3 j hj) (by rw [polite_take z h1]; exact h2)
    · rw [if_neg z]
      exact first_none fun j hj => by
        rw [hl] at hj
        rw [polite_take hj (by omega)]
        exact h3 j (by omega)
theorem first_snoc {ps : List (Int × Int)} {hs ns : List Int} {t : Int} (h : firstI ps hs ns = none) : (firstI ps hs (ns ++ [t])).isNone = (openI hs t && ps.all (apI ns t)) := by
  have q := first_no h
  have el : politeAt ps hs (ns ++ [t]) ns.length = (openI hs t && ps.all (apI ns t)) := by
    unfold politeAt
    rw [List.getD_eq_getElem?_getD, List.getElem?_append_right (Nat.le_refl _), Nat.sub_self, List.take_left]
    rfl
  have eb : ∀ j, j < ns.length → politeAt ps hs (ns ++ [t]) j = true := fun j hj => by
    have := polite_take (ps := ps) (hs := hs) (ns := ns ++ [t]) (m := ns.length) hj (by rw [List.length_append]; omega)
    rw [List.take_left] at this
    rw [← this]
    exact q j hj
  cases hb : (openI hs t && ps.all (apI ns t)) with
  | true =>
    rw [first_none fun j hj => ?_]
    · rfl
    · rw [List.length_append] at hj
      have hj : j < ns.length + 1 := hj
      by_cases z : j < ns.length
      · exact eb j z
      · rw [show j = ns.length by omega, el, hb]
  | false =>
    rw [first_at (i := ns.length) (by rw [List.length_append]; show _ < _ + 1; omega) eb (by rw [el, hb])]
    rfl
theorem open_shift (hs : List Int) (t k : Int) : openI hs (t + k * ((hs.length : Nat) : Int)) = openI hs t := by
  unfold openI
  rw [Int.add_mul_emod_self_right]
theorem open_twice (hs : List Int) (h0 : 0 < hs.length) (t : Int) : openI (hs ++ hs) t = openI hs t := by
  unfold openI
  have a := Int.emod_nonneg t (b := ((hs.length : Nat) : Int)) (by omega)
  have b := Int.emod_lt_of_pos t (b := ((hs.length : Nat) : Int)) (by omega)
  have c := Int.emod_nonneg t (b := (((hs ++ hs).length : Nat) : Int)) (by rw [List.length_append]; omega)
  have d := Int.emod_lt_of_pos t (b := (((hs ++ hs).length : Nat) : Int)) (by rw [List.length_append]; omega)
  have e : (t % (((hs ++ hs).length : Nat) : Int)) % ((hs.length : Nat) : Int) = t % ((hs.length : Nat) : Int) :=
    Int.emod_emod_of_dvd t (by rw [List.length_append, Int.natCast_add]; exact ⟨2, by omega⟩)
  rw [List.length_append] at d
  by_cases z : t % (((hs ++ hs).length : Nat) : Int) < ((hs.length : Nat) : Int)
  · rw [Int.emod_eq_of_lt c z] at e
    rw [e, List.getElem?_append_left (by omega)]
  · have e2 : t % (((hs ++ hs).length : Nat) : Int) - ((hs.length : Nat) : Int) = t % ((hs.length : Nat) : Int) := by
      rw [← e]
      have : (t % (((hs ++ hs).length : Nat) : Int)) % ((hs.length : Nat) : Int) = (t % (((hs ++ hs).length : Nat) : Int) - ((hs.length : Nat) : Int)) % ((hs.length : Nat) : Int) := by
        rw [Int.sub_emod_right]
      rw [this]
      exact (Int.emod_eq_of_lt (by omega) (by rw [List.length_append] at *; omega)).symm
    rw [List.getElem?_append_right (by omega)]
    congr 2
    omega
theorem atI_shift (c : Int) (ns : List Int) (i : Int) : atI (ns.map (· + c)) i = (atI ns i).map (· + c) := by
  unfold atI
  rw [List.length_map]
  cases ixN ns.length i with
  | none => rfl
  | some j =>
    show (ns.map (· + c))[j]? = (ns[j]?).map (· + c)
    rw [List.getElem?_map]
theorem ap_shift (c : Int) (ns : List Int) (t : Int) (q : Int × Int) : apI (ns.map (· + c)) (t + c) q = apI ns t q := by
  unfold apI
  rw [List.length_map, atI_shift]
  cases atI ns (-q.1) with
  | none => rfl
  | some x =>
    show (_ || decide (q.2 ≤ t + c - (x + c))) = (_ || decide (q.2 ≤ t - x))
    rw [show t + c - (x + c) = t - x by omega]
end KP

set_option Elab.async false
set_option maxRecDepth 100000
set_option linter.all false
/-! Ours: right rules; shifted asks. -/
namespace KP
open PySem PySem.Spec PyProof.Rows L2 Gr GxR
structure Good (ps : List (Int × Int)) (hs : List Int) : Prop where
  l : ps.length ≤ 4
  p : ∀ p ∈ ps, 1 ≤ p.1 ∧ p.1 ≤ 6 ∧ 1 ≤ p.2 ∧ p.2 ≤ 12
  h0 : 0 < hs.length
  h1 : hs.length ≤ 12
  d : ∀ h ∈ hs, 0 ≤ h ∧ h ≤ 1
  one : ∃ j : Nat, ∃ h : j < hs.length, hs[j] = 1
theorem has_one : ∀ {hs : List Int}, (1 : Int) ∈ hs → hasOne 1 (hs.map PyData.int) = true
  | h :: l, m => by
    show ((h == 1) || hasOne 1 (l.map PyData.int)) = true
    rw [Bool.or_eq_true]
    rcases List.mem_cons.mp m with e | e
    · exact .inl (by rw [← e]; rfl)
    · exact .inr (has_one e)
theorem Good.hours {ps : List (Int × Int)} {hs : List Int} (g : Good ps hs) : hoursD (.tuple (hs.map PyData.int)) = true := by
  obtain ⟨j, hj, e⟩ := g.one
  have e1 : rowD (.tuple (hs.map PyData.int)) 1 12 = true := by
    show (decide ((1 : Int) ≤ ((hs.map PyData.int).length : Nat)) && decide ((((hs.map PyData.int).length : Nat) : Int) ≤ 12)) = true
    have := g.h0
    have := g.h1
    rw [List.length_map, Bool.and_eq_true, decide_eq_true_eq, decide_eq_true_eq]
    omega
  have e2 : (hs.map PyData.int).all (fun x => betwD x 0 1) = true := List.all_eq_true.mpr fun d hd => by
    obtain ⟨h, hh, rfl⟩ := List.mem_map.mp hd
    have := g.d h hh
    show (decide (0 ≤ h) && decide (h ≤ 1)) = true
    rw [Bool.and_eq_true, decide_eq_true_eq, decide_eq_true_eq]
    exact this
  have e3 : hasOne 1 (hs.map PyData.int) = true := has_one (e ▸ List.getElem_mem hj)
  unfold hoursD
  rw [e1, Bool.true_and]
  show ((hs.map PyData.int).all (fun x => betwD x 0 1) && hasOne 1 (hs.map PyData.int)) = true
  rw [e2, e3]
  rfl
theorem Good.rules {ps : List (Int × Int)} {hs : List Int} (g : Good ps hs) : rulesD (rulesP ps hs) = true := by
  have e1 : rowD (.tuple ((ps.map inD).map tw)) 0 4 = true := by
    show (decide ((0 : Int) ≤ (((ps.map inD).map tw).length : Nat)) && decide (((((ps.map inD).map tw).length : Nat) : Int) ≤ 4)) = true
    have := g.l
    rw [List.length_map, List.length_map, Bool.and_eq_true, decide_eq_true_eq, decide_eq_true_eq]
    omega
  have e2 : ((ps.map inD).map tw).all limD = true := List.all_eq_true.mpr fun d hd => by
    obtain ⟨q, hq, rfl⟩ := List.mem_map.mp hd
    obtain ⟨p, hp, rfl⟩ := List.mem_map.mp hq
    have := g.p p hp
    show ((decide (1 ≤ p.1) && decide (p.1 ≤ 6)) && (decide (1 ≤ p.2) && decide (p.2 ≤ 12))) = true
    simp only [Bool.and_eq_true, decide_eq_true_eq]
    omega
  have e3 : limsD (.tuple ((ps.map inD).map tw)) = true := by
    unfold limsD
    rw [e1, Bool.true_and]
    exact e2
  show (limsD (.tuple ((ps.map inD).map tw)) && hoursD (.tuple (hs.map PyData.int))) = true
  rw [e3, g.hours]
  rfl
theorem Good.rev {ps : List (Int × Int)} {hs : List Int} (g : Good ps hs) : Good ps.reverse hs := ⟨by rw [List.length_reverse]; exact g.l, fun p hp => g.p p (List.mem_reverse.mp hp), g.h0, g.h1, g.d, g.one⟩
theorem Good.twice {ps : List (Int × Int)} {hs : List Int} (g : Good ps hs) (h : hs.length < 7) : Good ps (hs ++ hs) := ⟨g.l, g.p, by have := g.h0; rw [List.length_append]; omega, by rw [List.length_append]; omega, fun x hx => g.d x ((List.mem_append.mp hx).elim id id), by
  obtain ⟨j, hj, e⟩ := g.one
  exact ⟨j, by rw [List.length_append]; omega, by rw [List.getElem_append_left hj]; exact e⟩⟩
theorem Good.right {ps : List (Int × Int)} {hs ns : List Int} (g : Good ps hs) (a : asc 0 ns) (n : ns.length ≤ 200) : Right ps hs ns := ⟨g.rules, fun p hp => (g.p p hp).1, g.h0, a, n⟩
theorem asc_take : ∀ {l : List Int} {m : Int} (k : Nat), asc m l → asc m (l.take k)
  | [], m, k, _ => by rw [List.take_nil]; trivial
  | n :: l, m, 0, _ => trivial
  | n :: l, m, k + 1, h => ⟨h.1, asc_take k h.2⟩
theorem asc_mono : ∀ {l : List Int} {m u : Int}, asc m l → u ≤ m → asc u l
  | [], _, _, _, _ => trivial
  | n :: l, m, u, h, q => ⟨by have := h.1; omega, h.2⟩
theorem asc_shift (c : Int) : ∀ {l : List Int} {m : Int}, asc m l → asc (m + c) (l.map (· + c))
  | [], _, _ => trivial
  | n :: l, m, h => ⟨by have := h.1; show m + c ≤ n + c; omega, asc_shift c h.2⟩
theorem polite_shift (ps : List (Int × Int)) {hs hs' : List Int} (ns : List Int) (c : Int) (ho : ∀ t, openI hs' (t + c) = openI hs t) (j : Nat) (hj : j < ns.length) : politeAt ps hs' (ns.map (· + c)) j = politeAt ps hs ns j := by
  unfold politeAt
  have e : (ns.map (· + c)).getD j 0 = ns.getD j 0 + c := by
    rw [List.getD_eq_getElem?_getD, List.getD_eq_getElem?_getD, List.getElem?_map, List.getElem?_eq_getElem hj]
    rfl
  rw [e, ho, ← List.map_take]
  congr 2
  funext q
  exact ap_shift c _ _ q
theorem first_shift (ps : List (Int × Int)) {hs hs' : List Int} (ns : List Int) (c : Int) (ho : ∀ t, openI hs' (t + c) = openI hs t) : firstI ps hs' (ns.map (· + c)) = firstI ps hs ns :=
  first_congr (by rw [List.length_map]) fun j hj => polite_shift ps ns c ho j (by rw [List.length_map] at hj; exact hj)
theorem open_later {hs : List Int} (h0 : 0 < hs.length) (t : Int) : openI hs (t + 5 * ((hs.length : Nat) : Int)) = openI hs t ∧ openI (hs ++ hs) (t + 5 * ((hs.length : Nat) : Int)) = openI hs t :=
  ⟨open_shift hs t 5, by rw [open_twice hs h0, open_shift]⟩
end KP

set_option Elab.async false
set_option maxRecDepth 100000
set_option maxHeartbeats 4000000
set_option linter.all false
/-! Ours: next_open, next_ask, soonest_asks. -/
namespace KP
open PySem PySem.Spec PyProof.Rows L2 Gr GxR
theorem ix_listB {X : Cx} {s : Shared} {H : Hp} {sc : Scope} {en : Env} {fp : List Addr} : IxR (X.blk s H sc en fp) (rIxL X.K) := ix_list
theorem call_len_seqB {X : Cx} {s : Shared} {H : Hp} {sc : Scope} {en : Env} {fp : List Addr} : CallR (X.blk s H sc en fp) (.builtin "len") (fun xs H Q => ∃ p ys, xs = [V.ref p] ∧ (SqL X.K H p ys ∨ SqT X.K H p ys) ∧ Q (.int (ys.length : Nat)) H) := call_len_seq
def spNOpen : Sp := fun vs H Q _ => ∃ (hv : V) (hs : List Int) (t : Int), vs = [hv, .int t] ∧ Od H hv (.tuple (hs.map PyData.int)) ∧ (∃ j : Nat, ∃ h : j < hs.length, hs[j] = 1) ∧ ∀ u, openI hs u = true → t ≤ u → (∀ v, t ≤ v → openI hs v = true → u ≤ v) → Q (.int u) H
def spNext : Sp := fun vs H Q _ => ∃ (rv : V) (r : Addr) (st : Int) (ps : List (Int × Int)) (hs rs : List Int), vs = [rv, .ref r, .int st] ∧ Od H rv (rulesP ps hs) ∧ ps.length ≤ 4 ∧ (∀ p ∈ ps, 1 ≤ p.1) ∧ (∃ j : Nat, ∃ h : j < hs.length, hs[j] = 1) ∧ H r = some (.lst (rs.map V.int)) ∧ rs.length ≤ 4000 ∧ ∀ t H', IsNxt ps hs rs st t → Same H H' → Q (.int t) H'
section
variable {P : Program} {w : World} {K : PySem.W.Frag} {mg : Str → Option Value} {base : Heap}
theorem sc_nopen : FnScope ["hours", "moment"] ["hours", "moment"] (defScope s_next_open) := ⟨rfl, rfl, rfl, by decide +kernel, rfl, by decide +kernel, by decide +kernel⟩
theorem ok_nopen (T : D K mg) : FnOk P w K mg base CX0 2 T.f_next_open T.d_next_open ["hours", "moment"] spNOpen := by
  refine T.U_next_open.ok sc_nopen (fun vs H Q E h => ?_) (fun cdv A outer s H vs Q E hr h => ?_)
  · obtain ⟨hv, hs, t, rfl, _⟩ := h
    rfl
  · obtain ⟨hv, hs, t, rfl, hH, ⟨j, hj, e1⟩, k⟩ := h
    have nd := sc_nopen.nd
    refine ⟨_, pss_cons (ps_while PassesOwn.never (pt_not (pt_val (pe_call (ok_opens T) hr rfl T.g_opens T.U_opens.kp T.b_opens .nil pass0 (pa_cons (pv 0) (pa_cons (pv 1) pa_nil)))))
        (pss_one (ps_aug (i := 1) nd rfl (.inl rfl) pe_int ip_add)))
      (pss_one (ps_ret (pv 1))), ?_⟩
    obtain ⟨s0, h1, h2⟩ := open_soon hj e1 t
    refine ⟨fun m σ H' => H' = H ∧ ∃ u : Int, σ = [some hv, some (.int u)] ∧ t ≤ u ∧ (∀ v, t ≤ v → openI hs v = true → u ≤ v) ∧ m = (t + (s0 : Int) - u).toNat, ⟨_, rfl, t, rfl, Int.le_refl _, fun v hv _ => hv, rfl⟩, ?_⟩
    rintro m σ H' ⟨rfl, u, rfl, tu, lu, rfl⟩
    refine ⟨_, rfl, _, rfl, hv, hs, u, rfl, hH, by omega, _, rfl, ?_⟩
    cases ho : openI hs u with
    | true => exact ⟨_, rfl, k u ho tu lu⟩
    | false =>
      have hlt : u < t + (s0 : Int) := by
        have := lu _ (by omega) h2
        by_cases z : u = t + (s0 : Int)
        · rw [z, h2] at ho; cases ho
        · omega
      refine ⟨fun σ' H2 => H2 = H' ∧ ∃ v : Int, σ' = [some hv, some (.int v)] ∧ t ≤ v ∧ (∀ x, t ≤ x → openI hs x = true → v ≤ x) ∧ v = u + 1, ?_, ?_⟩
      · rintro σ' H2 ⟨rfl, v, rfl, tv, lv, rfl⟩
        exact ⟨_, by omega, rfl, u + 1, rfl, tv, lv, rfl⟩
      · refine ⟨_, rfl, _, _, rfl, rfl, rfl, u + 1, rfl, by omega, fun x hx hox => ?_, rfl⟩
        have := lu x hx hox
        by_cases z : x = u
        · rw [z, ho] at hox; cases hox
        · omega
theorem sc_next : FnScope ["rules", "asks", "since", "limits", "hours", "bounds", "most", "wide"] ["rules", "asks", "since"] (defScope s_next_ask) := ⟨rfl, rfl, rfl, by decide +kernel, rfl, by decide +kernel, by decide +kernel⟩
theorem ok_next (T : D K mg) : FnOk P w K mg base CX0 3 T.f_next_ask T.d_next_ask ["rules", "asks", "since"] spNext := by
  refine T.U_next_ask.ok sc_next (fun vs H Q E h => ?_) (fun cdv A outer s H vs Q E hr h => ?_)
  · obtain ⟨rv, r, st, ps, hs, rs, rfl, _⟩ := h
    rfl
  · obtain ⟨rv, r, st, ps, hs, rs, rfl, hR, hl4, hp, ho, er, hrl, k⟩ := h
    have nd := sc_next.nd
    have mz : 5000 ≤ sizeLine := by decide
    refine ⟨_, pss_cons (ps_asg (pv 0) (pg_tup rfl (pgs_cons (pg_name (i := 3) nd rfl (.inl rfl)) (pgs_cons (pg_name (i := 4) nd rfl (.inl rfl)) pgs_nil))))
      (pss_cons (ps_setLc (i := 5) (own := [("most", 6), ("wide", 7)]) (g := gTup _ 2 (gCons (gName 6) (gCons (gName 7) gNil))) rfl nd rfl rfl (sw_true rfl rfl rfl (by decide +kernel)) (pi_tup (pv 3)) (blkOk_by (N := ["rules", "asks", "since", "limits", "hours", "bounds", "most", "wide"]) (sc := defScope s_next_ask) (by decide +kernel)) (fun _ _ _ _ _ => pg_tup rfl (pgs_cons (pg_name (i := 6) nd rfl (.inl rfl)) (pgs_cons (pg_name (i := 7) nd rfl (.inl rfl)) pgs_nil))) (fun _ _ _ _ _ => (pts_one (pt_cmpR op_ge (pe_callB call_len_seqB (by rfl) T.len PySem.boot_len (pa_cons (pv 1) pa_nil)) (pv 6) (nomark _)))) (fun _ _ _ _ _ => pe_op op_add (pe_ix ix_listB (pv 1) (pe_un un_neg (pv 6)) (fun _ _ => rfl)) (pv 7)))
      (pss_one (ps_ret (pe_call (ok_nopen T) hr rfl T.g_next_open T.U_next_open.kp T.b_next_open .nil pass0 (pa_cons (pv 4) (pa_cons (pe_callB (cr_max rfl) (by rfl) T.max (by decide +kernel) (pa_cons (pe_op op_cat (pe_op op_cat (pv 5) (pe_callTy call_list_of (by rfl) T.list (by decide +kernel) (pa_cons (pe_slice sl_list (pv 1) (po_some (pe_un un_neg pe_int)) po_none) pa_nil))) (pe_lst (pa_cons (pv 2) pa_nil))) pa_nil)) pa_nil)))))), ?_⟩
    obtain ⟨ra, rxs, rfl, era, ora⟩ := od_tup hR
    match rxs, ora with
    | [lv, hv], .cons oL (.cons oH .nil) =>
    refine ⟨_, rfl, ra, _, rfl, SqT.of era, rfl, _, _, rfl, _, _, rfl, rfl, ?_⟩
    obtain ⟨la, ls, rfl, el, ol⟩ := od_tup oL
    have lls : ls.length = ps.length := by rw [ol.len, List.length_map, List.length_map]
    refine ⟨_, rfl, la, rfl, ⟨_, SqT.of el⟩, fun D hD => lc_tup (K := K) (a := la) (xs := ls) (fun i Hx => Same H Hx ∧ ∃ bs : List Int, Hx D = some (.lst (bs.map V.int)) ∧ bs.length ≤ i ∧ (∀ b ∈ bs, ∀ u, ps.all (apI rs u) = true → b ≤ u) ∧ (∀ j (hj : j < ps.length), j < i → ∀ u, (∀ b ∈ bs, b ≤ u) → apI rs u ps[j] = true)) ⟨same_upd hD, [], upd_same, Nat.le_refl _, (fun _ h => nomatch h), fun _ _ h => absurd h (Nat.not_lt_zero _)⟩ (fun i Hx _ q => SqT.of (q.1 _ _ el)) ?_ ?_⟩
    · rintro i x Hx hx ⟨sx, bs, eb, lb, b1, b2⟩
      obtain ⟨q, b, hpm, rfl, eb'⟩ := pair_at ol hx
      obtain ⟨hmp, hpe⟩ := List.getElem?_eq_some_iff.mp hpm
      have hpp := hp q (List.mem_of_getElem? hpm)
      have nDr := ne_of_none er hD
      refine ⟨b, _, rfl, SqT.of (sx _ _ eb'), rfl, _, _, rfl, _, _, rfl, rfl, rfl, ?_⟩
      refine ⟨_, rfl, r, _, rfl, .inl (SqL.of (sx _ _ er)), _, rfl, _, _, rfl, rfl, _, rfl, ?_⟩
      rw [List.length_map]
      refine ite2 (fun h => ?_) (fun h => ?_)
      · have h := of_decide_eq_true h
        obtain ⟨x, hxx⟩ := atI_some (ns := rs) hpp (by omega)
        refine ⟨_, rfl, _, rfl, _, rfl, r, _, _, V.int x, rfl, rfl, SqL.of (sx _ _ er), atI_mapV hxx, _, rfl, _, _, rfl, rfl, _, eb, by rw [List.length_map]; omega, same_into hD sx, bs ++ [x + q.2], by rw [upd_same, List.map_append]; rfl, by rw [List.length_append]; show _ + 1 ≤ _; omega, fun c hc u hu => ?_, fun j hj hji u hu => ?_⟩
        · rcases List.mem_append.mp hc with h1 | h1
          · exact b1 c h1 u hu
          · rw [List.mem_singleton.mp h1]
            have h2 := List.all_eq_true.mp hu q (List.mem_of_getElem? hpm)
            unfold apI at h2
            rw [hxx, decide_eq_false (by omega), Bool.false_or] at h2
            have h2 := of_decide_eq_true h2
            omega
        · by_cases z : j = i
          · subst z
            rw [hpe]
            have := hu (x + q.2) (List.mem_append_right _ (List.mem_singleton.mpr rfl))
            unfold apI
            rw [hxx, Bool.or_eq_true]
            exact .inr (decide_eq_true (by omega))
          · exact b2 j hj (by omega) u fun c hc => hu c (List.mem_append_left _ hc)
      · have h : ¬ q.1 ≤ ((rs.length : Nat) : Int) := fun z => h (decide_eq_true z)
        refine ⟨sx, bs, eb, by omega, b1, fun j hj hji u hu => ?_⟩
        by_cases z : j = i
        · subst z
          rw [hpe]
          unfold apI
          rw [decide_eq_true (show ((rs.length : Nat) : Int) < q.1 by omega), Bool.true_or]
        · exact b2 j hj (by omega) u hu
    · rintro Hx ⟨sx, bs, eb, lb, b1, b2⟩
      rw [lls] at lb b2
      refine gn ?_
      have erx := sx _ _ er
      refine ⟨_, rfl, _, rfl, _, rfl, 1, rfl, _, rfl, ?_⟩
      dsimp only [tNoPart]
      refine ⟨r, _, rfl, SqL.of erx, fun c1 hc1 => ?_⟩
      rw [cut_I]
      have lc : (cutI rs (some (-1)) none).length ≤ 4000 := by
        unfold cutI
        rw [List.length_take, List.length_drop]
        omega
      have sa := same_upd (o := HO.lst ((cutI rs (some (-1)) none).map V.int)) hc1
      refine ⟨c1, _, rfl, .inl (SqL.of upd_same), fun c2 hc2 => ?_⟩
      have sb := same_upd (o := HO.lst ((cutI rs (some (-1)) none).map V.int)) hc2
      refine ⟨D, c2, _, _, rfl, rfl, sb _ _ (sa _ _ eb), upd_same, by rw [List.length_map, List.length_map]; omega, fun c3 hc3 => ?_⟩
      have sc := same_upd (o := HO.lst (bs.map V.int ++ (cutI rs (some (-1)) none).map V.int)) hc3
      refine ⟨_, rfl, by show 1 ≤ sizeLine; omega, fun c4 hc4 => ?_⟩
      have sd := same_upd (o := HO.lst [V.int st]) hc4
      refine ⟨c3, c4, _, _, rfl, rfl, sd _ _ upd_same, upd_same, by rw [List.length_append, List.length_map, List.length_map]; show _ + 1 ≤ sizeLine; omega, fun c5 hc5 => ?_⟩
      have se := same_upd (o := HO.lst (bs.map V.int ++ (cutI rs (some (-1)) none).map V.int ++ [V.int st])) hc5
      refine ⟨c5, bs ++ cutI rs (some (-1)) none ++ [st], rfl, SqL.of (by rw [upd_same, List.map_append, List.map_append]; rfl), by rw [List.length_append]; exact Nat.succ_pos _, fun m hm hle => ?_⟩
      have s5 := sx.trans (sa.trans (sb.trans (sc.trans (sd.trans se))))
      refine ⟨hv, hs, m, rfl, oH.same s5, ho, fun u hu mu lu => k u _ ⟨⟨?_, fun x hx => ?_⟩, hu, ?_, fun v pv ov av => lu v ?_ ov⟩ s5⟩
      · have := hle st (List.mem_append_right _ (List.mem_singleton.mpr rfl))
        omega
      · have := hle x (List.mem_append_left _ (List.mem_append_right _ (last_in hx)))
        omega
      · refine List.all_eq_true.mpr fun q hq => ?_
        obtain ⟨j, hj, rfl⟩ := List.getElem_of_mem hq
        exact b2 j hj hj u fun c hc => by
          have := hle c (List.mem_append_left _ (List.mem_append_left _ hc))
          omega
      · rcases List.mem_append.mp hm with h | h
        · rcases List.mem_append.mp h with h | h
          · exact b1 m h v av
          · have h0 : 0 < rs.length := by
              cases hz : rs with
              | nil => rw [hz] at h; cases h
              | cons a l => exact Nat.succ_pos _
            rw [cut_last h0] at h
            rw [List.mem_singleton.mp h]
            exact pv.2 _ (last_at h0)
        · rw [List.mem_singleton.mp h]
          exact pv.1
def spSoonA (K : PySem.W.Frag) : Sp := fun vs H Q _ => ∃ (rv : V) (r : Addr) (n st : Int) (ps : List (Int × Int)) (hs ns : List Int), vs = [rv, .ref r, .int n, .int st] ∧ Od H rv (rulesP ps hs) ∧ ps.length ≤ 4 ∧ (∀ p ∈ ps, 1 ≤ p.1) ∧ (∃ j : Nat, ∃ h : j < hs.length, hs[j] = 1) ∧ (SqL K H r (ns.map V.int) ∨ SqT K H r (ns.map V.int)) ∧ ns.length ≤ 1000 ∧ 0 ≤ n ∧ n ≤ 1000 ∧
  ∀ z ts H', Same H H' → H' z = some (.lst (ts.map V.int)) → ts.length = n.toNat → SRow ps hs ns st ts → Q (.ref z) H'
theorem sc_soona : FnScope ["rules", "asks", "many", "since", "rows", "_"] ["rules", "asks", "many", "since"] (defScope s_soonest_asks) := ⟨rfl, rfl, rfl, by decide +kernel, rfl, by decide +kernel, by decide +kernel⟩
theorem ok_soona (T : D K mg) : FnOk P w K mg base CX0 4 T.f_soonest_asks T.d_soonest_asks ["rules", "asks", "many", "since"] (spSoonA K) := by
  refine T.U_soonest_asks.ok sc_soona (fun vs H Q E h => ?_) (fun cdv A outer s H vs Q E hr h => ?_)
  · obtain ⟨rv, r, n, st, ps, hs, ns, rfl, _⟩ := h
    rfl
  · obtain ⟨rv, r, nn, st, ps, hs, ns, rfl, hR, hl4, hp, ho, er, hn, n0, n1, k⟩ := h
    have nd := sc_soona.nd
    have mz : 5000 ≤ sizeLine := by decide
    refine ⟨_, pss_cons (ps_set (i := 4) nd rfl (.inl rfl) (pe_callTy call_list_of (by rfl) T.list (by decide +kernel) (pa_cons (pv 1) pa_nil)))
      (pss_cons (ps_for PassesOwn.never rfl (pi_range1 rfl T.range (pa_cons (pv 2) pa_nil)) (pg_name (i := 5) nd rfl (.inl rfl))
        (pss_one (ps_expr (pe_bm PySem.F.plainAttrs_list PySem.F.slot_list_append PySem.F.type_list_append mt_append (pv 4) (pa_cons (pe_call (ok_next T) hr rfl T.g_next_ask T.U_next_ask.kp T.b_next_ask .nil pass0 (pa_cons (pv 0) (pa_cons (pv 4) (pa_cons (pv 3) pa_nil)))) pa_nil)))))
      (pss_one (ps_ret (pe_slice sl_list (pv 4) (po_some (pe_callB call_len_seq (by rfl) T.len PySem.boot_len (pa_cons (pv 1) pa_nil))) po_none)))), ?_⟩
    have er' : ∀ H2, Same H H2 → (SqL K H2 r (ns.map V.int) ∨ SqT K H2 r (ns.map V.int)) := fun H2 s2 => er.elim (fun h => .inl (sql_same s2 h)) (fun h => .inr (sqt_same s2 h))
    refine ⟨_, rfl, r, _, rfl, er, fun Ln hLn => gn ?_⟩
    have s1 := same_upd (o := HO.lst (ns.map V.int)) hLn
    have e1 : upd H Ln (.lst (ns.map V.int)) Ln = some (.lst ((ns ++ []).map V.int)) := by rw [upd_same, List.append_nil]
    generalize upd H Ln (.lst (ns.map V.int)) = H1 at *
    refine ⟨_, rfl, nn, rfl, by omega, by omega, for_range (lo := 0) (n := _) (fun i σ H2 => Same H H2 ∧ ∃ (ts : List Int) (v5 : Option V), H2 Ln = some (.lst ((ns ++ ts).map V.int)) ∧ σ = [some rv, some (.ref r), some (.int nn), some (.int st), some (.ref Ln), v5] ∧ ts.length = i ∧ SRow ps hs ns st ts) ⟨s1, [], none, e1, rfl, rfl, SRow.nil⟩ ?_ ?_⟩
    · rintro i σ H2 hi ⟨s2, ts, v5, e2, rfl, lts, srow⟩
      have hrl : (ns ++ ts).length ≤ 2000 := by rw [List.length_append]; omega
      refine gn ?_
      refine ⟨_, rfl, .inl ⟨rfl, _, SqL.of e2⟩, _, rfl, _, rfl, _, rfl, rv, Ln, st, ps, hs, ns ++ ts, rfl, hR.same s2, hl4, hp, ho, e2, by omega, fun t H3 nx s3 => ?_⟩
      refine ⟨Ln, _, _, rfl, rfl, s3 _ _ e2, by rw [List.length_map]; omega, ?_⟩
      refine ⟨same_into hLn (s2.trans s3), ts ++ [t], _, ?_, rfl, by rw [List.length_append, lts]; rfl, SRow.snoc srow nx⟩
      rw [upd_same]
      simp [List.map_append]
    · rintro σ H2 ⟨s2, ts, v5, e2, rfl, lts, srow⟩
      refine ⟨_, rfl, _, rfl, r, _, rfl, er' _ s2, _, rfl, ?_⟩
      dsimp only [tNoPart]
      refine ⟨Ln, _, rfl, SqL.of e2, fun z hz => ?_⟩
      have ecut : cutV ((ns ++ ts).map V.int) (some (((ns.map V.int).length : Nat) : Int)) none = ts.map V.int := by
        rw [cutV_from, List.map_append, List.drop_left]
      rw [ecut]
      exact k z ts _ (s2.trans (same_upd hz)) upd_same lts srow
end
end KP

set_option Elab.async false
set_option maxRecDepth 100000
set_option maxHeartbeats 4000000
set_option linter.all false
/-! Ours: soonest, of right arguments. -/
namespace KP
open PySem PySem.Spec PyProof.Rows L2 Gr GxR
def spCkB : Sp := fun vs H Q _ => ∃ t lo hi : Int, vs = [.int t, .int lo, .int hi] ∧ lo ≤ t ∧ t ≤ hi ∧ Q .non H
def spAmt : Sp := fun vs H Q _ => ∃ t : Int, vs = [.int t] ∧ 0 ≤ t ∧ t ≤ 100 ∧ Q .non H
def spSoonest (L : List Addr) : Sp := fun vs H Q _ => ∃ (rv av : V) (n st : Int) (ps : List (Int × Int)) (hs ns : List Int), vs = [rv, av, .int n, .int st] ∧ Od H rv (rulesP ps hs) ∧ Od H av (.tuple (ns.map PyData.int)) ∧ Good ps hs ∧ asc 0 ns ∧ ns.length ≤ 200 ∧ firstI ps hs ns = none ∧ 0 ≤ n ∧ n ≤ 100 ∧ 0 ≤ st ∧ Tb L H ∧ ∀ z ts H', UpL L H H' → IsI H' z ts → ts.length = n.toNat → SRow ps hs ns st ts → Q z H'
section
variable {P : Program} {w : World} {K : PySem.W.Frag} {mg : Str → Option Value} {base : Heap}
theorem sc_ckb : FnScope ["given", "low", "high"] ["given", "low", "high"] (defScope s_check_between) := ⟨rfl, rfl, rfl, by decide +kernel, rfl, by decide +kernel, by decide +kernel⟩
theorem ok_ckb (T : D K mg) : FnOk P w K mg base CX0 3 T.f_check_between T.d_check_between ["given", "low", "high"] spCkB := by
  refine T.U_check_between.ok sc_ckb (fun vs H Q E h => ?_) (fun cdv A outer s H vs Q E hr h => ?_)
  · obtain ⟨t, lo, hi, rfl, _⟩ := h
    rfl
  · obtain ⟨t, lo, hi, rfl, h1, h2, k⟩ := h
    refine ⟨_, pss_one (ps_if (pt_not (pt_val (pe_call (ok_betw T) hr rfl T.g_is_between T.U_is_between.kp T.b_is_between .nil pass0 (pa_cons (pv 0) (pa_cons (pv 1) (pa_cons (pv 2) pa_nil))))))
        (pss_one (ps_never))
        (pss_nil)), ?_⟩
    refine ⟨_, rfl, _, rfl, _, rfl, .int t, .int t, lo, hi, rfl, .int t, _, rfl, ?_⟩
    have e : betwD (.int t) lo hi = true := by
      show (decide (lo ≤ t) && decide (t ≤ hi)) = true
      rw [decide_eq_true h1, decide_eq_true h2]
      rfl
    rw [e]
    exact k
theorem sc_amt : FnScope ["given"] ["given"] (defScope s_check_amount) := ⟨rfl, rfl, rfl, by decide +kernel, rfl, by decide +kernel, by decide +kernel⟩
theorem ok_amt (T : D K mg) : FnOk P w K mg base CX0 4 T.f_check_amount T.d_check_amount ["given"] spAmt := by
  refine T.U_check_amount.ok sc_amt (fun vs H Q E h => ?_) (fun cdv A outer s H vs Q E hr h => ?_)
  · obtain ⟨t, rfl, _⟩ := h
    rfl
  · obtain ⟨t, rfl, h1, h2, k⟩ := h
    refine ⟨_, pss_one (ps_expr (pe_call (ok_ckb T) hr rfl T.g_check_between T.U_check_between.kp T.b_check_between .nil pass0 (pa_cons (pv 0) (pa_cons pe_int (pa_cons (pe_glob (v := .int 100) rfl T.g_MOST_MOMENTS ⟨_, rfl⟩) pa_nil))))), ?_⟩
    exact ⟨_, rfl, t, 0, 100, rfl, h1, h2, k⟩
end
end KP

set_option Elab.async false
set_option maxRecDepth 100000
set_option maxHeartbeats 4000000
set_option linter.all false
/-! Ours: room, has_room, shifted by one moment. -/
namespace KP
open PySem PySem.Spec PyProof.Rows L2 Gr GxR
def leftP (cs : List Int) (p : Int × Int) : Int := p.1 - (cs.take (p.2 - 1).toNat).sum
def roomC (ps : List (Int × Int)) (hs : List Int) (t : Int) (cs : List Int) : V := if openI hs t = true then minV (ps.map (leftP cs)) else .int 0
def hasB : V → Int → Bool
  | .int r, m => decide (m ≤ r)
  | _, _ => true
def spRoom : Sp := fun vs H Q _ => ∃ (rv cv : V) (t : Int) (ps : List (Int × Int)) (hs cs : List Int), vs = [rv, .int t, cv] ∧ Od H rv (rulesP ps hs) ∧ Good ps hs ∧ Od H cv (.tuple (cs.map PyData.int)) ∧ ∀ H', Same H H' → Q (roomC ps hs t cs) H'
def spHas : Sp := fun vs H Q _ => ∃ (rv cv : V) (t m : Int) (ps : List (Int × Int)) (hs cs : List Int), vs = [rv, .int t, cv, .int m] ∧ Od H rv (rulesP ps hs) ∧ Good ps hs ∧ Od H cv (.tuple (cs.map PyData.int)) ∧ ∀ H', Same H H' → Q (.bl (hasB (roomC ps hs t cs) m)) H'
def spShift : Sp := fun vs H Q _ => ∃ (cv : V) (m : Int) (cs : List Int), vs = [cv, .int m, .int 1] ∧ Od H cv (.tuple (cs.map PyData.int)) ∧ cs.length ≤ 1000 ∧ ∀ z H', Same H H' → H' z = some (.tup (((m :: cs).take cs.length).map V.int)) → Q (.ref z) H'
section
variable {P : Program} {w : World} {K : PySem.W.Frag} {mg : Str → Option Value} {base : Heap}
theorem sc_room : FnScope ["rules", "moment", "counts", "limits", "hours", "most", "wide"] ["rules", "moment", "counts"] (defScope s_room) := ⟨rfl, rfl, rfl, by decide +kernel, rfl, by decide +kernel, by decide +kernel⟩
theorem ok_room (T : D K mg) : FnOk P w K mg base CX0 2 T.f_room T.d_room ["rules", "moment", "counts"] spRoom := by
  refine T.U_room.ok sc_room (fun vs H Q E h => ?_) (fun cdv A outer s H vs Q E hr h => ?_)
  · obtain ⟨rv, cv, t, ps, hs, cs, rfl, _⟩ := h
    rfl
  · obtain ⟨rv, cv, t, ps, hs, cs, rfl, hR, g, hC, k⟩ := h
    have nd := sc_room.nd
    have mz : 5000 ≤ sizeLine := by decide
    refine ⟨_, pss_cons (ps_asg (pv 0) (pg_tup rfl (pgs_cons (pg_name (i := 3) nd rfl (.inl rfl)) (pgs_cons (pg_name (i := 4) nd rfl (.inl rfl)) pgs_nil))))
      (pss_cons (ps_if (pt_not (pt_val (pe_call (ok_opens T) hr rfl T.g_opens T.U_opens.kp T.b_opens .nil pass0 (pa_cons (pv 4) (pa_cons (pv 1) pa_nil)))))
        (pss_one (ps_ret pe_int))
        (pss_nil))
      (pss_one (ps_ret (pe_callBK (call_minDef hr.hd hr.units) (by rfl) T.min (by decide +kernel) (pa_cons (pe_lc (own := [("most", 5), ("wide", 6)]) (g := gTup _ 2 (gCons (gName 5) (gCons (gName 6) gNil))) (tt := tYes) rfl nd (pi_tup (pv 3)) (blkOk_by (N := ["rules", "moment", "counts", "limits", "hours", "most", "wide"]) (sc := defScope s_room) (by decide +kernel)) (fun _ _ _ _ _ => pg_tup rfl (pgs_cons (pg_name (i := 5) nd rfl (.inl rfl)) (pgs_cons (pg_name (i := 6) nd rfl (.inl rfl)) pgs_nil))) (fun _ _ _ _ _ => pts_nil) (fun _ _ _ _ _ => pe_op op_sub (pv 5) (pe_callB (cr_sumTB hr.hd) (by rfl) T.sum (by decide +kernel) (pa_cons (pe_slice KP.sl_tupAB (pv 2) po_none (po_some (pe_op op_sub (pv 6) pe_int))) pa_nil)))) pa_nil) (pk_cons pe_non pk_nil))))), ?_⟩
    obtain ⟨ra, rl, rfl, er, orl⟩ := od_tup hR
    cases orl with
    | cons o1 o2 =>
      rename_i lv rest
      cases o2 with
      | cons o2 o3 =>
        rename_i hv rest
        cases o3
        obtain ⟨la, ls, rfl, el, ol⟩ := od_tup o1
        obtain ⟨ca, rfl, ec⟩ := od_I hC
        have lls : ls.length = ps.length := by rw [ol.len, List.length_map, List.length_map]
        refine ⟨_, rfl, ra, _, rfl, SqT.of er, rfl, _, _, rfl, _, _, rfl, rfl, ?_⟩
        refine ⟨_, rfl, _, rfl, hv, hs, t, rfl, o2, g.h0, _, rfl, ?_⟩
        have q := k
        unfold roomC at q
        cases hop : openI hs t with
        | false =>
          rw [hop] at q
          exact iteT (q H (.refl H))
        | true =>
          rw [hop, if_pos rfl] at q
          refine iteF (next_of ?_)
          dsimp only
          refine ⟨_, rfl, la, rfl, ⟨_, SqT.of el⟩, fun D hD => lc_tup (K := K) (a := la) (xs := ls) (fun i Hx => Same H Hx ∧ Hx D = some (.lst (((ps.take i).map (leftP cs)).map V.int))) ⟨same_upd hD, upd_same⟩ (fun i Hx _ q => SqT.of (q.1 _ _ el)) ?_ ?_⟩
          · rintro i x Hx hx ⟨sx, ex⟩
            obtain ⟨p, b, hpm, rfl, eb⟩ := pair_at ol hx
            have hpp := g.p p (List.mem_of_getElem? hpm)
            have hip := (List.getElem?_eq_some_iff.mp hpm).1
            refine ⟨b, _, rfl, SqT.of (sx _ _ eb), rfl, _, _, rfl, _, _, rfl, rfl, rfl, ?_⟩
            unfold tYes
            dsimp only
            rw [if_pos rfl]
            refine ⟨_, rfl, _, rfl, ?_⟩
            dsimp only [tNoPart]
            refine ⟨_, rfl, _, _, rfl, rfl, _, rfl, slice_tt (by omega) (sx _ _ ec) fun p1 Hz sz e1 => ?_⟩
            rw [← List.map_take] at e1
            refine ⟨p1, _, rfl, SqT.of e1, _, _, rfl, rfl, _, sz _ _ ex, by rw [List.length_map, List.length_map, List.length_take]; have := g.l; omega, same_into hD (sx.trans sz), ?_⟩
            rw [upd_same, List.take_add_one, hpm, List.map_append, List.map_append]
            rfl
          · rintro Hx ⟨sx, ex⟩
            rw [lls, List.take_length] at ex
            exact ⟨D, _, 0, rfl, rfl, SqL.of ex, q Hx sx⟩
theorem sc_has : FnScope ["rules", "moment", "counts", "many", "left"] ["rules", "moment", "counts", "many"] (defScope s_has_room) := ⟨rfl, rfl, rfl, by decide +kernel, rfl, by decide +kernel, by decide +kernel⟩
theorem minV_or (l : List Int) : minV l = .non ∨ ∃ r, minV l = .int r := by
  cases l with
  | nil => exact .inl rfl
  | cons a l => exact .inr ⟨_, rfl⟩
theorem room_or (ps : List (Int × Int)) (hs : List Int) (t : Int) (cs : List Int) : roomC ps hs t cs = .non ∨ ∃ r, roomC ps hs t cs = .int r := by
  unfold roomC
  split
  · exact minV_or _
  · exact .inr ⟨0, rfl⟩
theorem ok_has (T : D K mg) : FnOk P w K mg base CX0 3 T.f_has_room T.d_has_room ["rules", "moment", "counts", "many"] spHas := by
  refine T.U_has_room.ok sc_has (fun vs H Q E h => ?_) (fun cdv A outer s H vs Q E hr h => ?_)
  · obtain ⟨rv, cv, t, m, ps, hs, cs, rfl, _⟩ := h
    rfl
  · obtain ⟨rv, cv, t, m, ps, hs, cs, rfl, hR, g, hC, k⟩ := h
    have nd := sc_has.nd
    refine ⟨_, pss_cons (ps_set (i := 4) nd rfl (.inl rfl) (pe_call (ok_room T) hr rfl T.g_room T.U_room.kp T.b_room .nil pass0 (pa_cons (pv 0) (pa_cons (pv 1) (pa_cons (pv 2) pa_nil)))))
      (pss_one (ps_ret (pe_or (pe_cmpR op_isN (pv 4) pe_non (nomark _)) (pe_one (pe_cmpR op_le (pv 3) (pv 4) (nomark _)))))), ?_⟩
    refine ⟨_, rfl, _, rfl, _, rfl, rv, cv, t, ps, hs, cs, rfl, hR, g, hC, fun H1 s1 => gn ?_⟩
    have q := k H1 s1
    rcases room_or ps hs t cs with e | ⟨r, e⟩
    · rw [e] at q ⊢
      dsimp only
      refine ⟨_, rfl, rfl, _, rfl, iteT ?_⟩
      exact q
    · rw [e] at q ⊢
      dsimp only
      refine ⟨_, rfl, rfl, _, rfl, iteF ⟨_, rfl, _, rfl, _, _, rfl, rfl, ?_⟩⟩
      exact q
theorem sc_shift : FnScope ["counts", "many", "moments", "span", "waited"] ["counts", "many", "moments"] (defScope s_shifted) := ⟨rfl, rfl, rfl, by decide +kernel, rfl, by decide +kernel, by decide +kernel⟩
theorem ok_shift (T : D K mg) : FnOk P w K mg base CX0 1 T.f_shifted T.d_shifted ["counts", "many", "moments"] spShift := by
  refine T.U_shifted.ok sc_shift (fun vs H Q E h => ?_) (fun cdv A outer s H vs Q E hr h => ?_)
  · obtain ⟨cv, m, cs, rfl, _⟩ := h
    rfl
  · obtain ⟨cv, m, cs, rfl, hC, hl, k⟩ := h
    have nd := sc_shift.nd
    have mz : 5000 ≤ sizeLine := by decide
    refine ⟨_, pss_cons (ps_set (i := 3) nd rfl (.inl rfl) (pe_callB call_len_seq (by rfl) T.len PySem.boot_len (pa_cons (pv 0) pa_nil)))
      (pss_cons (ps_set (i := 4) nd rfl (.inl rfl) (pe_callB (call_min2 rfl) (by rfl) T.min boot_min (pa_cons (pe_op op_sub (pv 2) pe_int) (pa_cons (pv 3) pa_nil))))
      (pss_one (ps_ret (pe_slice sl_tupA (pe_op op_catA (pe_op op_catA (pe_op op_repA (pe_tup (pa_cons pe_int pa_nil)) (pv 4)) (pe_tup (pa_cons (pv 1) pa_nil))) (pv 0)) po_none (po_some (pv 3)))))), ?_⟩
    obtain ⟨ca, rfl, ec⟩ := od_I hC
    refine ⟨_, rfl, ca, _, rfl, .inr (SqT.of ec), gn ?_⟩
    rw [List.length_map]
    dsimp only
    refine ⟨_, rfl, _, _, rfl, rfl, _, rfl, _, _, rfl, gn ?_⟩
    dsimp only
    rw [show (if ((cs.length : Nat) : Int) < 1 - 1 then ((cs.length : Nat) : Int) else 1 - 1) = 0 from by split <;> omega]
    refine ⟨by show 1 ≤ sizeLine; omega, fun a ha => ⟨_, rfl, a, 0, [.int 0], rfl, rfl, SqT.of upd_same, List.cons_ne_nil _ _, by decide, by decide, by show 1 ≤ 1000; decide, fun z => absurd z (by decide), fun _ b hb => ?_⟩⟩
    have sa := same_upd (o := HO.tup [V.int 0]) ha
    have sb := same_upd (o := HO.tup (List.replicate (0 : Int).toNat [V.int 0]).flatten) hb
    have eb : upd (upd H a (.tup [V.int 0])) b (.tup (List.replicate (0 : Int).toNat [V.int 0]).flatten) b = some (.tup []) := upd_same
    have s2 := sa.trans sb
    generalize upd (upd H a (.tup [V.int 0])) b (.tup (List.replicate (0 : Int).toNat [V.int 0]).flatten) = H2 at *
    refine ⟨_, rfl, by show 1 ≤ sizeLine; omega, fun c hc => ?_⟩
    have sc := same_upd (o := HO.tup [V.int m]) hc
    refine cat_tt (sc _ _ eb) upd_same (by show 0 + 1 ≤ sizeLine; omega) fun p1 H3 s3 e3 => ⟨_, rfl, ?_⟩
    have s4 := s2.trans (sc.trans s3)
    refine cat_tt e3 (s4 _ _ ec) (by rw [List.length_map]; show 0 + 1 + _ ≤ sizeLine; omega) fun p2 H4 s5 e4 => ?_
    dsimp only [tNoPart]
    refine ⟨_, rfl, _, rfl, slice_tt (by omega) e4 fun p3 H5 s6 e5 => ?_⟩
    refine k p3 H5 (s4.trans (s5.trans s6)) ?_
    rw [e5, Int.toNat_natCast, List.map_take]
    rfl
end
end KP

set_option Elab.async false
set_option maxRecDepth 100000
set_option maxHeartbeats 4000000
set_option linter.all false
/-! Ours: check_place, most_now, lets, wait, of right arguments. -/
namespace KP
open PySem PySem.Spec PyProof.Rows L2 Gr GxR
theorem prs (ps : List (Int × Int)) : ps.map prD = (ps.map inD).map tw := by
  rw [List.map_map]
  rfl
theorem Good.lim {ps : List (Int × Int)} {hs : List Int} (g : Good ps hs) : Lim ps := ⟨g.l, g.p⟩
/-- the counts, n moments later -/
def shN : Nat → List Int → List Int
  | 0, cs => cs
  | n + 1, cs => (0 :: shN n cs).take (shN n cs).length
theorem shN_len : ∀ (n : Nat) (cs : List Int), (shN n cs).length = cs.length
  | 0, _ => rfl
  | n + 1, cs => by
    show ((0 :: shN n cs).take (shN n cs).length).length = cs.length
    rw [List.length_take, List.length_cons, shN_len n cs]
    omega
def Fits (ps : List (Int × Int)) (cs : List Int) : Prop := fitD ps (.tuple (cs.map PyData.int)) = true
def spCC (L : List Addr) : Sp := fun vs H Q _ => ∃ (lv cv : V) (ps : List (Int × Int)) (cs : List Int), vs = [lv, cv] ∧ Od H lv (.tuple ((ps.map inD).map tw)) ∧ Lim ps ∧ Od H cv (.tuple (cs.map PyData.int)) ∧ Fits ps cs ∧ Tb L H ∧ ∀ H', UpL L H H' → Q .non H'
def spPlace (L : List Addr) : Sp := fun vs H Q _ => ∃ (rv cv : V) (t : Int) (ps : List (Int × Int)) (hs cs : List Int), vs = [rv, .int t, cv] ∧ Od H rv (rulesP ps hs) ∧ Good ps hs ∧ 0 ≤ t ∧ Od H cv (.tuple (cs.map PyData.int)) ∧ Fits ps cs ∧ Tb L H ∧ ∀ H', UpL L H H' → Q .non H'
def spNow (L : List Addr) : Sp := fun vs H Q _ => ∃ (rv cv : V) (t : Int) (ps : List (Int × Int)) (hs cs : List Int), vs = [rv, .int t, cv] ∧ Od H rv (rulesP ps hs) ∧ Good ps hs ∧ 0 ≤ t ∧ Od H cv (.tuple (cs.map PyData.int)) ∧ Fits ps cs ∧ Tb L H ∧ ∀ H', UpL L H H' → Q (roomC ps hs t cs) H'
def spLets (L : List Addr) : Sp := fun vs H Q _ => ∃ (rv cv : V) (t m : Int) (ps : List (Int × Int)) (hs cs : List Int), vs = [rv, .int t, cv, .int m] ∧ Od H rv (rulesP ps hs) ∧ Good ps hs ∧ 0 ≤ t ∧ 0 ≤ m ∧ m ≤ 100 ∧ Od H cv (.tuple (cs.map PyData.int)) ∧ Fits ps cs ∧ Tb L H ∧ ∀ H', UpL L H H' → Q (.bl (hasB (roomC ps hs t cs) m)) H'
def spWait (L : List Addr) : Sp := fun vs H Q _ => ∃ (rv cv : V) (t : Int) (ps : List (Int × Int)) (hs cs : List Int) (w0 : Nat), vs = [rv, .int t, cv] ∧ Od H rv (rulesP ps hs) ∧ Good ps hs ∧ 0 ≤ t ∧ Od H cv (.tuple (cs.map PyData.int)) ∧ cs.length ≤ 1000 ∧ Fits ps cs ∧ Tb L H ∧ hasB (roomC ps hs (t + (w0 : Nat)) (shN w0 cs)) 1 = true ∧ (∀ w : Nat, w < w0 → hasB (roomC ps hs (t + (w : Nat)) (shN w cs)) 1 = false) ∧ ∀ H', UpL L H H' → Q (.int (w0 : Nat)) H'
section
variable {P : Program} {w : World} {K : PySem.W.Frag} {mg : Str → Option Value} {base : Heap}
end
end KP

set_option Elab.async false
set_option maxRecDepth 100000
set_option maxHeartbeats 4000000
set_option linter.all false
/-! Ours: _law_may of any number. -/
namespace KP
open PySem PySem.Spec PyProof.Rows L2 Gr GxR
def mayI (ps : List (Int × Int)) (hs ns : List Int) (t m : Int) : Bool := decide (m ≤ 0) || (openI hs t && ps.all fun p => decide (((above (t - p.2) ns : Nat) : Int) + m ≤ p.1))
def spLMay : Sp := fun vs H Q _ => ∃ (lv hv : V) (a : Addr) (t m : Int) (ps : List (Int × Int)) (hs ns : List Int), vs = [lv, hv, .ref a, .int t, .int m] ∧ Od H lv (.tuple ((ps.map inD).map tw)) ∧ Od H hv (.tuple (hs.map PyData.int)) ∧ 0 < hs.length ∧ H a = some (.lst (ns.map V.int)) ∧ ns.length ≤ 1000 ∧ 0 ≤ m ∧ ∀ H', Same H H' → Q (.bl (mayI ps hs ns t m)) H'
section
variable {P : Program} {w : World} {K : PySem.W.Frag} {mg : Str → Option Value} {base : Heap}
theorem sc_lmay : FnScope ["_law_pairs", "_law_clock", "_law_row", "_law_time", "_law_number", "_law_pair", "_law_other"] ["_law_pairs", "_law_clock", "_law_row", "_law_time", "_law_number"] (defScope s_l_may) := ⟨rfl, rfl, rfl, by decide +kernel, rfl, by decide +kernel, by decide +kernel⟩
theorem ok_lmay (T : D K mg) : FnOk P w K mg base CX0 2 T.f_l_may T.d_l_may ["_law_pairs", "_law_clock", "_law_row", "_law_time", "_law_number"] spLMay := by
  refine T.U_l_may.ok sc_lmay (fun vs H Q E h => ?_) (fun cdv A outer s H vs Q E hr h => ?_)
  · obtain ⟨lv, hv, a, t, m, ps, hs, ns, rfl, _⟩ := h
    rfl
  · obtain ⟨lv, hv, a, t, m, ps, hs, ns, rfl, hL, hH, h0, ea, hn, m0, k⟩ := h
    have nd := sc_lmay.nd
    have mz : 5000 ≤ sizeLine := by decide
    refine ⟨_, pss_cons (ps_if (PW.pt (pw_and (pt_cmpR op_gt (pv 4) pe_int (nomark _)) (pw_and1 (pt_not (pt_val (pe_call (ok_lopen T) hr rfl T.g_l_open T.U_l_open.kp T.b_l_open .nil pass0 (pa_cons (pv 1) (pa_cons (pv 3) pa_nil))))))))
        (pss_one (ps_ret pe_bl))
        (pss_nil))
      (pss_cons (ps_for PassesOwn.never rfl (pi_tup (pv 0)) (pg_name (i := 5) nd rfl (.inr rfl))
        (pss_one (ps_if (PW.pt (pw_and (pt_cmpR op_gt (pv 4) pe_int (nomark _)) (pw_and1 (pt_cmpR op_gt (pe_op op_add (pe_callB call_len_seq (by rfl) T.len PySem.boot_len (pa_cons (pe_lc (own := [("_law_other", 6)]) (g := gName 6) rfl nd (pi_list (pv 2)) (blkOk_by (N := ["_law_pairs", "_law_clock", "_law_row", "_law_time", "_law_number", "_law_pair", "_law_other"]) (sc := defScope s_l_may) (by decide +kernel)) (fun _ _ _ _ _ => pg_name (i := 6) nd rfl (.inl rfl)) (fun _ _ _ _ _ => (pts_one (pt_cmpR op_gt (pv 6) (pe_op op_sub (pv 3) (pe_ix ix_tupB (pv 5) pe_int (fun _ _ => rfl))) (nomark _)))) (fun _ _ _ _ _ => pv 6)) pa_nil)) (pv 4)) (pe_ix ix_tup (pv 5) pe_int (fun _ _ => rfl)) (nomark _)))))
          (pss_one (ps_ret pe_bl))
          (pss_nil))))
      (pss_one (ps_ret pe_bl))), ?_⟩
    obtain ⟨la, ls, rfl, el, ol⟩ := od_tup hL
    have lls : ls.length = ps.length := by rw [ol.len, List.length_map, List.length_map]
    refine ⟨_, rfl, _, _, rfl, rfl, _, rfl, ?_⟩
    dsimp only
    by_cases hm0 : 0 < m
    · rw [if_pos (decide_eq_true hm0)]
      have em : mayI ps hs ns t m = (openI hs t && ps.all fun p => decide (((above (t - p.2) ns : Nat) : Int) + m ≤ p.1)) := by
        unfold mayI
        rw [decide_eq_false (by omega), Bool.false_or]
      rw [em] at k
      refine ⟨_, rfl, _, rfl, hv, hs, t, rfl, hH, h0, _, rfl, ?_⟩
      cases ho : openI hs t with
      | false =>
        have q := k H (.refl H)
        rw [ho, Bool.false_and] at q
        exact iteT q
      | true =>
        refine iteF (next_of ?_)
        dsimp only
        refine ⟨_, rfl, la, rfl, ⟨_, SqT.of el⟩, for_tup (K := K) (a := la) (xs := ls) (fun j σ H5 => Same H H5 ∧ (∀ mm (hm : mm < ps.length), mm < j → ((above (t - ps[mm].2) ns : Nat) : Int) + m ≤ ps[mm].1) ∧ ∃ (v5 v6 : Option V), σ = [some (.ref la), some hv, some (.ref a), some (.int t), some (.int m), v5, v6]) ⟨.refl _, fun _ _ h => absurd h (Nat.not_lt_zero _), _, _, rfl⟩ (fun j σ H5 _ q => SqT.of (q.1 _ _ el)) ?_ ?_⟩
        · rintro i x σ H5 hx ⟨s5, hm, v5, v6, rfl⟩
          obtain ⟨p, b, hpm, rfl, eb⟩ := pair_at ol hx
          obtain ⟨hmp, hpe⟩ := List.getElem?_eq_some_iff.mp hpm
          refine gn ?_
          refine ⟨_, rfl, _, _, rfl, rfl, _, rfl, ?_⟩
          dsimp only
          rw [if_pos (decide_eq_true hm0)]
          refine ⟨_, rfl, a, rfl, ⟨_, SqL.of (s5 _ _ ea)⟩, fun D hD => lc_list (K := K) (a := a) (xs := ns.map V.int) (fun j Hx => Same H5 Hx ∧ Hx D = some (.lst (((ns.take j).filter (fun x => decide (t - p.2 < x))).map V.int))) ⟨same_upd hD, upd_same⟩ (fun j Hx _ q => SqL.of (q.1 _ _ (s5 _ _ ea))) ?_ ?_⟩
          · rintro j x Hx hx ⟨sx, ex⟩
            rw [List.getElem?_map] at hx
            obtain ⟨n, hn', rfl⟩ := Option.map_eq_some_iff.mp hx
            refine ⟨rfl, ?_⟩
            have et : ns.take (j + 1) = ns.take j ++ [n] := by rw [List.take_add_one, hn']; rfl
            refine ⟨_, rfl, _, rfl, _, rfl, b, _, _, _, rfl, rfl, SqT.of (sx _ _ (s5 _ _ eb)), rfl, _, _, rfl, rfl, _, _, rfl, rfl, _, rfl, ite2 (fun h => ?_) (fun h => ?_)⟩
            · refine ⟨_, rfl, _, ex, ?_, same_into hD sx, ?_⟩
              · rw [List.length_map]
                have := List.length_filter_le (fun x => decide (t - p.2 < x)) (ns.take j)
                rw [List.length_take] at this
                omega
              · rw [upd_same, et, List.filter_append, List.map_append, List.filter_cons_of_pos (by exact h)]
                rfl
            · refine ⟨sx, ?_⟩
              rw [ex, et, List.filter_append, List.filter_cons_of_neg (by exact h), List.filter_nil, List.append_nil]
          · rintro Hx ⟨sx, ex⟩
            rw [List.length_map, List.take_of_length_le (Nat.le_refl _)] at ex
            have s0x := s5.trans sx
            have ec : ((((ns.filter (fun x => decide (t - p.2 < x))).map V.int).length : Nat) : Int) = ((above (t - p.2) ns : Nat) : Int) := by
              rw [List.length_map]
              unfold above
              rw [List.countP_eq_length_filter]
            refine ⟨D, _, rfl, .inl (SqL.of ex), _, rfl, _, _, rfl, rfl, _, rfl, b, _, _, _, rfl, rfl, SqT.of (s0x _ _ eb), rfl, _, _, rfl, rfl, _, rfl, ite2 (fun h => ?_) (fun h => ?_)⟩
            · have h := of_decide_eq_true h
              have q := k Hx s0x
              have e2 : (ps.all fun p => decide (((above (t - p.2) ns : Nat) : Int) + m ≤ p.1)) = false := by
                rw [Bool.eq_false_iff]
                intro z
                have := of_decide_eq_true (List.all_eq_true.mp z p (List.mem_of_getElem? hpm))
                omega
              rw [ho, e2] at q
              exact q
            · have h : ¬ p.1 < ((above (t - p.2) ns : Nat) : Int) + m := fun q => h (decide_eq_true (by rw [ec]; exact q))
              refine ⟨s5.trans sx, fun mm hmm hml => ?_, _, _, rfl⟩
              by_cases zz : mm = i
              · subst zz
                rw [hpe]
                omega
              · exact hm mm hmm (by omega)
        · rintro σ H5 ⟨s5, hm, v5, v6, rfl⟩
          have q := k H5 s5
          have e2 : (ps.all fun p => decide (((above (t - p.2) ns : Nat) : Int) + m ≤ p.1)) = true := List.all_eq_true.mpr fun q hq => by
            obtain ⟨mm, hmm, rfl⟩ := List.getElem_of_mem hq
            exact decide_eq_true (hm mm hmm (by rw [lls]; exact hmm))
          rw [ho, e2] at q
          exact q
    · have em : mayI ps hs ns t m = true := by
        unfold mayI
        rw [decide_eq_true (by omega), Bool.true_or]
      rw [em] at k
      rw [if_neg (fun z => hm0 (of_decide_eq_true z))]
      refine iteF (next_of ?_)
      dsimp only
      refine ⟨_, rfl, la, rfl, ⟨_, SqT.of el⟩, for_tup (K := K) (a := la) (xs := ls) (fun j σ H5 => Same H H5 ∧ ∃ (v5 v6 : Option V), σ = [some (.ref la), some hv, some (.ref a), some (.int t), some (.int m), v5, v6]) ⟨.refl _, _, _, rfl⟩ (fun j σ H5 _ q => SqT.of (q.1 _ _ el)) ?_ ?_⟩
      · rintro i x σ H5 hx ⟨s5, v5, v6, rfl⟩
        refine gn ?_
        refine ⟨_, rfl, _, _, rfl, rfl, _, rfl, ?_⟩
        dsimp only
        rw [if_neg (fun z => hm0 (of_decide_eq_true z))]
        exact iteF ⟨s5, _, _, rfl⟩
      · rintro σ H5 ⟨s5, v5, v6, rfl⟩
        exact k H5 s5
end
end KP

set_option Elab.async false
set_option maxRecDepth 100000
set_option maxHeartbeats 4000000
set_option linter.all false
/-! Ours: _law_greatest, _law_wait. -/
namespace KP
open PySem PySem.Spec PyProof.Rows L2 Gr GxR
theorem dp_of_pairs {K : PySem.W.Frag} {H : Hp} : ∀ {vs : List V}, (∀ v ∈ vs, ∃ (b : Addr) (q : Int × Int), v = .ref b ∧ H b = some (.tup [.int q.1, .int q.2])) → ∃ qs : List (Int × Int), qs.length = vs.length ∧ DpAll K H vs ((qs.map inD).map tw)
  | [], _ => ⟨[], rfl, .nil⟩
  | v :: vs, h => by
    obtain ⟨qs, l, d⟩ := dp_of_pairs (K := K) (vs := vs) fun x hx => h x (List.mem_cons_of_mem _ hx)
    obtain ⟨b, q, rfl, e⟩ := h v List.mem_cons_self
    exact ⟨q :: qs, by rw [List.length_cons, List.length_cons, l], .cons (.tup (SqT.of e) (.cons (.int _) (.cons (.int _) .nil))) d⟩
theorem lay_pairs : ∀ qs : List (Int × Int), PyData.canLayAll0 ((qs.map inD).map tw) = true ∧ PyData.depthAll ((qs.map inD).map tw) ≤ 3
  | [] => ⟨rfl, by simp [PyData.depthAll]⟩
  | q :: qs => by
    have h := lay_pairs qs
    refine ⟨?_, ?_⟩
    · simp only [List.map_cons, PyData.canLayAll0, h.1, Bool.and_true]
      rfl
    · simp only [List.map_cons, PyData.depthAll]
      have e : (tw (inD q)).depth ≤ 3 := by
        simp [tw, inD, PyData.depth, PyData.depthAll]
      omega
theorem shaped_pairsT (qs : List (Int × Int)) : SeqAt.shaped (.tuple ((qs.map inD).map tw)) = true := by
  have h := lay_pairs qs
  unfold SeqAt.shaped
  rw [Bool.and_eq_true, decide_eq_true_eq]
  exact ⟨by rw [PyData.canLay0]; exact h.1, by simp only [PyData.depth]; omega⟩
theorem eqv_nilT (ds : List PyData) : PyData.eqv (.tuple ds) (.tuple []) = ds.isEmpty := by
  cases ds with
  | nil => rfl
  | cons a l => rfl
theorem dp_lims {K : PySem.W.Frag} {H : Hp} {ls : List V} {ps : List (Int × Int)} (ol : OdAll H ls ((ps.map inD).map tw)) : DpAll K H ls ((ps.map inD).map tw) := by
  induction ps generalizing ls with
  | nil => cases ol; exact .nil
  | cons p ps ih =>
    cases ls with
    | nil => cases ol
    | cons v ls =>
      obtain ⟨p', b, h1, h2, h3⟩ := pair_at ol (i := 0) (x := v) rfl
      cases h1
      cases ol with
      | cons a o => exact .cons (h2 ▸ .tup (SqT.of h3) (.cons (.int _) (.cons (.int _) .nil))) (ih o)
/-- what _law_greatest answers -/
def GreatV (ps : List (Int × Int)) (hs ns : List Int) (t : Int) (v : V) : Prop :=
  (ps = [] ∧ openI hs t = true ∧ v = .non) ∨ (¬ (ps = [] ∧ openI hs t = true) ∧ ∃ g : Nat, v = .int (g : Nat) ∧ g ≤ 6 ∧ mayI ps hs ns t (g : Nat) = true ∧ ∀ m : Nat, m ≤ 6 → mayI ps hs ns t (m : Nat) = true → m ≤ g)
def spGreat : Sp := fun vs H Q _ => ∃ (lv hv : V) (a : Addr) (t : Int) (ps : List (Int × Int)) (hs ns : List Int), vs = [lv, hv, .ref a, .int t] ∧ Od H lv (.tuple ((ps.map inD).map tw)) ∧ Od H hv (.tuple (hs.map PyData.int)) ∧ 0 < hs.length ∧ H a = some (.lst (ns.map V.int)) ∧ ns.length ≤ 1000 ∧ ∀ v H', GreatV ps hs ns t v → Same H H' → Q v H'
def spLWait : Sp := fun vs H Q _ => ∃ (lv hv : V) (a : Addr) (t : Int) (ps : List (Int × Int)) (hs ns : List Int) (w0 : Nat), vs = [lv, hv, .ref a, .int t] ∧ Od H lv (.tuple ((ps.map inD).map tw)) ∧ Od H hv (.tuple (hs.map PyData.int)) ∧ 0 < hs.length ∧ H a = some (.lst (ns.map V.int)) ∧ ns.length ≤ 1000 ∧ w0 < 200 ∧ mayI ps hs ns (t + (w0 : Nat)) 1 = true ∧ (∀ w : Nat, w < w0 → mayI ps hs ns (t + (w : Nat)) 1 = false) ∧ ∀ H', Same H H' → Q (.int (w0 : Nat)) H'
section
variable {P : Program} {w : World} {K : PySem.W.Frag} {mg : Str → Option Value} {base : Heap}
end
end KP

set_option Elab.async false
set_option maxRecDepth 100000
set_option linter.all false
/-! Ours: counts of a row at a moment: the mathematics. -/
namespace KP
open PySem PySem.Spec PyProof.Rows L2 Gr GxR
/-- the counts of the last L moments before t, the newest first -/
def cntL (ns : List Int) (t : Int) (L : Nat) : List Int := (List.range L).map fun (j : Nat) => ((ns.count (t - 1 - (j : Int)) : Nat) : Int)
theorem cntL_len (ns : List Int) (t : Int) (L : Nat) : (cntL ns t L).length = L := by
  unfold cntL
  rw [List.length_map, List.length_range]
theorem cntL_sum {ns : List Int} {t : Int} {L : Nat} (h : ∀ x ∈ ns, x < t) : ∀ m : Nat, m ≤ L → ((cntL ns t L).take m).sum = ((above (t - 1 - (m : Int)) ns : Nat) : Int)
  | 0, _ => by
    rw [above_none fun x hx => by have := h x hx; omega]
    rfl
  | m + 1, hm => by
    have ih := cntL_sum (L := L) h m (by omega)
    have e1 : above (t - 1 - ((m + 1 : Nat) : Int)) ns = above (t - 1 - (m : Int)) ns + ns.count (t - 1 - (m : Int)) := by
      rw [← above_step, show t - 1 - ((m + 1 : Nat) : Int) = t - 1 - (m : Int) - 1 by omega]
    have hl : m < (cntL ns t L).length := by rw [cntL_len]; omega
    rw [e1, List.take_add_one, List.getElem?_eq_getElem hl]
    have e2 : (cntL ns t L)[m] = ((ns.count (t - 1 - (m : Int)) : Nat) : Int) := by simp [cntL]
    rw [e2]
    simp only [Option.toList_some, List.sum_append, List.sum_cons, List.sum_nil]
    omega
theorem cntL_next {ns : List Int} {t : Int} (L m : Nat) (h : ∀ x ∈ ns, x < t) : ((m : Int) :: cntL ns t L).take L = cntL (ns ++ List.replicate m t) (t + 1) L := by
  unfold cntL
  cases L with
  | zero => rfl
  | succ L =>
    rw [List.take_succ_cons, ← List.map_take, List.take_range, Nat.min_eq_left (Nat.le_succ L), List.range_succ_eq_map, List.map_cons, List.map_map]
    congr 1
    · rw [List.count_append, show t + 1 - 1 - ((0 : Nat) : Int) = t by omega, List.count_replicate_self, List.count_eq_zero.mpr (fun hx => by have := h _ hx; omega)]
      simp
    · refine List.map_congr_left fun j _ => ?_
      show _ = ((List.count (t + 1 - 1 - ((j + 1 : Nat) : Int)) _ : Nat) : Int)
      rw [List.count_append, show t + 1 - 1 - ((j + 1 : Nat) : Int) = t - 1 - j by omega, List.count_replicate, if_neg (by simp; omega), Nat.add_zero]
theorem cntL_shN {ns : List Int} {t : Int} (L : Nat) (h : ∀ x ∈ ns, x < t) : ∀ w : Nat, shN w (cntL ns t L) = cntL ns (t + (w : Nat)) L
  | 0 => by
    show cntL ns t L = _
    rw [show t + ((0 : Nat) : Int) = t by omega]
  | w + 1 => by
    show (0 :: shN w (cntL ns t L)).take (shN w (cntL ns t L)).length = _
    rw [shN_len, cntL_len, cntL_shN L h w]
    have := cntL_next (ns := ns) (t := t + (w : Nat)) L 0 (fun x hx => by have := h x hx; omega)
    rw [List.replicate_zero, List.append_nil, show t + (w : Nat) + 1 = t + ((w + 1 : Nat) : Int) by omega] at this
    exact this
theorem left_above {ns : List Int} {t : Int} {L : Nat} {p : Int × Int} (h : ∀ x ∈ ns, x < t) (h1 : 1 ≤ p.2) (h2 : p.2 - 1 ≤ L) : leftP (cntL ns t L) p = p.1 - ((above (t - p.2) ns : Nat) : Int) := by
  unfold leftP
  rw [cntL_sum h _ (by omega), show t - 1 - (((p.2 - 1).toNat : Nat) : Int) = t - p.2 by omega]
theorem minV_has : ∀ {l : List Int} {m : Int}, hasB (minV l) m = l.all fun x => decide (m ≤ x)
  | [], m => rfl
  | a :: l, m => by
    show decide (m ≤ l.foldl min a) = _
    have e : ∀ (l : List Int) (a : Int), decide (m ≤ l.foldl min a) = (decide (m ≤ a) && l.all fun x => decide (m ≤ x)) := fun l => by
      induction l with
      | nil => exact fun a => (Bool.and_true _).symm
      | cons b l ih =>
        intro a
        show decide (m ≤ l.foldl min (min a b)) = _
        rw [ih, List.all_cons, ← Bool.and_assoc]
        congr 1
        rw [Bool.eq_iff_iff]
        simp only [Bool.and_eq_true, decide_eq_true_eq]
        omega
    rw [e, List.all_cons]
/-- what the counts let is what the row lets -/
theorem has_may {ps : List (Int × Int)} {hs ns : List Int} {t m : Int} {L : Nat} (h : ∀ x ∈ ns, x < t) (hp : ∀ p ∈ ps, 1 ≤ p.2 ∧ p.2 - 1 ≤ L) (hf : ∀ p ∈ ps, ((above (t - p.2) ns : Nat) : Int) ≤ p.1) (m0 : 0 ≤ m) : hasB (roomC ps hs t (cntL ns t L)) m = mayI ps hs ns t m := by
  unfold roomC mayI
  cases ho : openI hs t with
  | false =>
    rw [if_neg Bool.false_ne_true, Bool.false_and, Bool.or_false]
    rfl
  | true =>
    rw [if_pos rfl, minV_has, Bool.true_and, List.all_map, Bool.eq_iff_iff, Bool.or_eq_true, List.all_eq_true, List.all_eq_true]
    simp only [Function.comp, decide_eq_true_eq]
    constructor
    · intro z
      refine .inr fun p hp' => ?_
      have := z p hp'
      rw [left_above h (hp p hp').1 (hp p hp').2] at this
      omega
    · intro z p hp'
      rw [left_above h (hp p hp').1 (hp p hp').2]
      have := hf p hp'
      rcases z with z | z
      · omega
      · have := z p hp'
        omega
end KP

set_option Elab.async false
set_option maxRecDepth 100000
set_option linter.all false
/-! Ours: the room is the greatest number that the row lets; how long the wait is. -/
namespace KP
open PySem PySem.Spec PyProof.Rows L2 Gr GxR
theorem may_zero (ps : List (Int × Int)) (hs ns : List Int) (t : Int) : mayI ps hs ns t 0 = true := by
  unfold mayI
  rfl
theorem room_great {ps : List (Int × Int)} {hs ns : List Int} {t : Int} {L : Nat} {v : V} (h : ∀ x ∈ ns, x < t) (hp : ∀ p ∈ ps, 1 ≤ p.2 ∧ p.2 - 1 ≤ L ∧ p.1 ≤ 6) (hf : ∀ p ∈ ps, ((above (t - p.2) ns : Nat) : Int) ≤ p.1) (g : GreatV ps hs ns t v) : roomC ps hs t (cntL ns t L) = v := by
  have hm : ∀ m : Int, 0 ≤ m → hasB (roomC ps hs t (cntL ns t L)) m = mayI ps hs ns t m := fun m m0 => has_may h (fun p q => ⟨(hp p q).1, (hp p q).2.1⟩) hf m0
  rcases g with ⟨rfl, ho, rfl⟩ | ⟨hno, g, rfl, g6, gm, gl⟩
  · unfold roomC
    rw [ho]
    rfl
  · rcases room_or ps hs t (cntL ns t L) with e | ⟨r, e⟩
    · exfalso
      apply hno
      unfold roomC at e
      cases ho : openI hs t with
      | false =>
        rw [ho, if_neg Bool.false_ne_true] at e
        cases e
      | true =>
        rw [ho, if_pos rfl] at e
        cases ps with
        | nil => exact ⟨rfl, rfl⟩
        | cons p l => cases e
    · rw [e] at hm ⊢
      have hm : ∀ m : Int, 0 ≤ m → decide (m ≤ r) = mayI ps hs ns t m := hm
      have r0 : 0 ≤ r := by
        have := hm 0 (by decide)
        rw [may_zero] at this
        exact of_decide_eq_true this
      have r6 : r ≤ 6 := by
        have a := hm r r0
        rw [decide_eq_true (Int.le_refl r)] at a
        have a := a.symm
        unfold mayI at a
        rw [Bool.or_eq_true, Bool.and_eq_true, List.all_eq_true] at a
        rcases a with a | ⟨ho, a⟩
        · have := of_decide_eq_true a
          omega
        · cases hps : ps with
          | nil => exact absurd ⟨hps, ho⟩ hno
          | cons p l =>
            have := of_decide_eq_true (a p (by rw [hps]; exact List.mem_cons_self))
            have := (hp p (by rw [hps]; exact List.mem_cons_self)).2.2
            omega
      have a := gl r.toNat (by omega) (by rw [← hm _ (by omega)]; exact decide_eq_true (by omega))
      have b : ((g : Nat) : Int) ≤ r := of_decide_eq_true (by rw [hm _ (by omega)]; exact gm)
      rw [show r = ((g : Nat) : Int) by omega]
theorem above_mono {c d : Int} (ns : List Int) (h : c ≤ d) : above d ns ≤ above c ns := List.countP_mono_left fun y _ hy => decide_eq_true (by have := of_decide_eq_true hy; omega)
theorem least_nat {P : Nat → Prop} : ∀ n, P n → ∃ m, P m ∧ m ≤ n ∧ ∀ k, k < m → ¬ P k := fun n h => by
  induction n using Nat.strongRecOn with
  | ind n ih =>
    by_cases z : ∃ k, k < n ∧ P k
    · obtain ⟨k, hk, pk⟩ := z
      obtain ⟨m, h1, h2, h3⟩ := ih k hk pk
      exact ⟨m, h1, by omega, h3⟩
    · exact ⟨n, h, Nat.le_refl _, fun k hk pk => z ⟨k, hk, pk⟩⟩
/-- an ask is let within twenty-four moments -/
theorem wait_some {ps : List (Int × Int)} {hs ns : List Int} {t : Int} (g : Good ps hs) (h : ∀ x ∈ ns, x < t) : ∃ w : Nat, w < 200 ∧ mayI ps hs ns (t + (w : Nat)) 1 = true ∧ ∀ k : Nat, k < w → mayI ps hs ns (t + (k : Nat)) 1 = false := by
  obtain ⟨j, hj, e1⟩ := g.one
  obtain ⟨s0, h1, h2⟩ := open_soon hj e1 (t + 11)
  have hw : mayI ps hs ns (t + ((11 + s0 : Nat) : Int)) 1 = true := by
    unfold mayI
    rw [show t + ((11 + s0 : Nat) : Int) = t + 11 + (s0 : Nat) by omega, h2, Bool.true_and, Bool.or_eq_true]
    refine .inr (List.all_eq_true.mpr fun p hp => decide_eq_true ?_)
    have := g.p p hp
    rw [above_none fun x hx => by have := h x hx; omega]
    show (0 : Int) + 1 ≤ p.1
    omega
  obtain ⟨w, a, b, c⟩ := least_nat (P := fun w : Nat => mayI ps hs ns (t + (w : Nat)) 1 = true) (11 + s0) hw
  refine ⟨w, by have := g.h1; omega, a, fun k hk => ?_⟩
  have := c k hk
  rwa [Bool.not_eq_true] at this
/-- the wait by counts is the wait by the row -/
theorem wait_same {ps : List (Int × Int)} {hs ns : List Int} {t : Int} {L : Nat} (h : ∀ x ∈ ns, x < t) (hp : ∀ p ∈ ps, 1 ≤ p.2 ∧ p.2 - 1 ≤ L) (hf : ∀ p ∈ ps, ((above (t - p.2) ns : Nat) : Int) ≤ p.1) (w : Nat) : hasB (roomC ps hs (t + (w : Nat)) (shN w (cntL ns t L))) 1 = mayI ps hs ns (t + (w : Nat)) 1 := by
  rw [cntL_shN L h]
  refine has_may (fun x hx => by have := h x hx; omega) hp (fun p hp' => ?_) (by decide)
  have := hf p hp'
  have := above_mono ns (show t - p.2 ≤ t + (w : Nat) - p.2 by omega)
  omega
end KP

set_option Elab.async false
set_option maxRecDepth 100000
set_option linter.all false
/-! Ours: the counts of a polite row fit. -/
namespace KP
open PySem PySem.Spec PyProof.Rows L2 Gr GxR
/-- no window of the row is too full -/
def Full (ps : List (Int × Int)) (ns : List Int) : Prop := ∀ p ∈ ps, ∀ x : Int, ((above (x - p.2) ns : Nat) : Int) ≤ p.1 + ((above x ns : Nat) : Int)
theorem win_sum {ns : List Int} {t : Int} {L : Nat} (h : ∀ x ∈ ns, x < t) (i w : Nat) : ((((cntL ns t L).drop i).take w).sum : Int) ≤ ((above (t - 1 - (i : Int) - (w : Int)) ns : Nat) : Int) - ((above (t - 1 - (i : Int)) ns : Nat) : Int) := by
  by_cases hi : i ≤ L
  · have a := cntL_sum (L := L) h i hi
    by_cases hw : i + w ≤ L
    · have b := cntL_sum (L := L) h (i + w) hw
      rw [List.take_add, List.sum_append] at b
      rw [show t - 1 - ((i + w : Nat) : Int) = t - 1 - (i : Int) - (w : Int) by omega] at b
      omega
    · have b := cntL_sum (L := L) h L (Nat.le_refl _)
      have e : (cntL ns t L).take L = (cntL ns t L).take (i + (L - i)) := by rw [show i + (L - i) = L by omega]
      rw [e, List.take_add, List.sum_append] at b
      have e2 : ((cntL ns t L).drop i).take w = ((cntL ns t L).drop i).take (L - i) := by
        rw [List.take_of_length_le (by rw [List.length_drop, cntL_len]; omega), List.take_of_length_le (by rw [List.length_drop, cntL_len]; exact Nat.le_refl _)]
      rw [e2]
      have := above_mono ns (show t - 1 - (i : Int) - (w : Int) ≤ t - 1 - (L : Nat) by omega)
      omega
  · rw [List.drop_eq_nil_of_le (by rw [cntL_len]; omega)]
    have := above_mono ns (show t - 1 - (i : Int) - (w : Int) ≤ t - 1 - (i : Int) by omega)
    rw [List.take_nil]
    show (0 : Int) ≤ _
    omega
theorem fits_full {ps : List (Int × Int)} {ns : List Int} {t : Int} (hl : Lim ps) (h : ∀ x ∈ ns, x < t) (f : Full ps ns) : Fits ps (cntL ns t (spanP ps).toNat) := by
  have sb := span_bound hl
  unfold Fits fitD
  have e1 : rowD (.tuple ((cntL ns t (spanP ps).toNat).map PyData.int)) (spanP ps) (spanP ps) = true := by
    show (decide (spanP ps ≤ (((cntL ns t (spanP ps).toNat).map PyData.int).length : Nat)) && decide ((((cntL ns t (spanP ps).toNat).map PyData.int).length : Nat) ≤ spanP ps)) = true
    rw [List.length_map, cntL_len, Bool.and_eq_true, decide_eq_true_eq, decide_eq_true_eq]
    omega
  have e2 : ((cntL ns t (spanP ps).toNat).map PyData.int).all natD = true := List.all_eq_true.mpr fun d hd => by
    obtain ⟨n, hn, rfl⟩ := List.mem_map.mp hd
    unfold cntL at hn
    obtain ⟨j, _, rfl⟩ := List.mem_map.mp hn
    simp [natD]
  have e3 : ((cntL ns t (spanP ps).toNat).map PyData.int).map numD = cntL ns t (spanP ps).toNat := by
    rw [List.map_map]
    exact List.map_id _
  rw [e1, Bool.true_and]
  show (((cntL ns t (spanP ps).toNat).map PyData.int).all natD && (List.flatMap (wins (((cntL ns t (spanP ps).toNat).map PyData.int).map numD) (spanP ps).toNat) ps).all id) = true
  rw [e2, e3, Bool.true_and]
  refine List.all_eq_true.mpr fun b hb => ?_
  obtain ⟨p, hp, hb⟩ := List.mem_flatMap.mp hb
  unfold wins at hb
  obtain ⟨i, _, rfl⟩ := List.mem_map.mp hb
  refine decide_eq_true ?_
  have a := win_sum (L := (spanP ps).toNat) h i p.2.toNat
  have q := hl.2 p hp
  have c := f p hp (t - 1 - (i : Int))
  rw [show t - 1 - (i : Int) - ((p.2.toNat : Nat) : Int) = t - 1 - (i : Int) - p.2 by omega] at a
  omega
/-- one more moment keeps the row so -/
theorem full_next {ps : List (Int × Int)} {ns : List Int} {t : Int} (hp : ∀ p ∈ ps, 1 ≤ p.1 ∧ 1 ≤ p.2) (h : ∀ x ∈ ns, x < t) (f : Full ps ns) {m : Nat} (hm : ∀ p ∈ ps, 0 < m → ((above (t - p.2) ns : Nat) : Int) + (m : Int) ≤ p.1) : Full ps (ns ++ List.replicate m t) := fun p hp' x => by
  have q := hp p hp'
  have f1 := f p hp' x
  have ab : ∀ c : Int, above c (ns ++ List.replicate m t) = above c ns + (if c < t then m else 0) := fun c => by
    unfold above
    rw [List.countP_append]
    congr 1
    by_cases z : c < t
    · rw [if_pos z, List.countP_replicate, if_pos (decide_eq_true z)]
    · rw [if_neg z, List.countP_replicate, if_neg (by simpa using z)]
  rw [ab, ab]
  by_cases z : x < t
  · rw [if_pos z, if_pos (by omega)]
    omega
  · rw [if_neg z]
    by_cases y : x - p.2 < t
    · rw [if_pos y]
      by_cases m0 : 0 < m
      · have a := hm p hp' m0
        have b := above_mono ns (show t - p.2 ≤ x - p.2 by omega)
        omega
      · omega
    · rw [if_neg y]
      omega
theorem full_nil (ps : List (Int × Int)) (hp : ∀ p ∈ ps, 1 ≤ p.1) : Full ps [] := fun p hp' x => by
  have := hp p hp'
  show (0 : Int) ≤ p.1 + 0
  omega
end KP

set_option Elab.async false
set_option maxRecDepth 100000
set_option maxHeartbeats 4000000
set_option linter.all false
/-! Ours: the checks of a frozen row of asks. -/
namespace KP
open PySem PySem.Spec PyProof.Rows L2 Gr GxR
def FrzA (H : Hp) (v : V) (ns : List Int) : Prop := ∃ (a : Addr) (o : Obj), v = .ref a ∧ H a = some (.frz o (.tup (ns.map V.int))) ∧ o.dict = none
theorem frzT {K : PySem.W.Frag} {H : Hp} {a : Addr} {o : Obj} {xs : List V} (e : H a = some (.frz o (.tup xs))) : SqT K H a xs := .inl (.inr ⟨o, e⟩)
theorem FrzA.same {H H' : Hp} {v : V} {ns : List Int} (h : FrzA H v ns) (s : Same H H') : FrzA H' v ns := let ⟨a, o, e, q, d⟩ := h; ⟨a, o, e, s _ _ q, d⟩
theorem FrzA.stay {H H' : Hp} {v : V} {ns : List Int} (h : FrzA H v ns) (s : Stay H H') : FrzA H' v ns := let ⟨a, o, e, q, d⟩ := h; ⟨a, o, e, s _ _ q (fun _ z => nomatch z), d⟩
theorem sl_toF {K : PySem.W.Frag} {a : Addr} {ns : List Int} {i : Nat} {H : Hp} {Q : VK} (o : SqT K H a (ns.map V.int)) (hi : i < ns.length) (k : ∀ z H', Same H H' → IsI H' z (ns.take i) → Q z H') : rSlA K (.ref a) none (some (i : Int)) H Q := by
  refine ⟨a, _, rfl, o, fun q => ?_, fun _ p hp => k _ _ (same_upd hp) ⟨p, rfl, by rw [upd_same, cutV_to, List.map_take]⟩⟩
  exfalso
  rw [HT.sIx_nat, List.length_map] at q
  omega
def spRowF : Sp := fun vs H Q _ => ∃ (v : V) (ns : List Int) (lo hi : Int), vs = [v, .int lo, .int hi] ∧ FrzA H v ns ∧ lo ≤ (ns.length : Nat) ∧ ((ns.length : Nat) : Int) ≤ hi ∧ Q (.bl true) H
def spBackF : Sp := fun vs H Q _ => ∃ (v : V) (ns : List Int), vs = [v] ∧ FrzA H v ns ∧ asc 0 ns ∧ ∀ H', Same H H' → Q .non H'
def spAsksF : Sp := fun vs H Q _ => ∃ (v : V) (ns : List Int), vs = [v] ∧ FrzA H v ns ∧ asc 0 ns ∧ ns.length ≤ 200 ∧ ∀ H', Same H H' → Q .non H'
def spFirstF (L : List Addr) : Sp := fun vs H Q _ => ∃ (rv av : V) (ps : List (Int × Int)) (hs ns : List Int), vs = [rv, av] ∧ Od H rv (rulesP ps hs) ∧ (∀ p ∈ ps, 1 ≤ p.1) ∧ 0 < hs.length ∧ FrzA H av ns ∧ Tb L H ∧ ∀ H', UpL L H H' → Q (optV (firstI ps hs ns)) H'
def spPolF (L : List Addr) : Sp := fun vs H Q _ => ∃ (rv av : V) (ps : List (Int × Int)) (hs ns : List Int), vs = [rv, av] ∧ Od H rv (rulesP ps hs) ∧ (∀ p ∈ ps, 1 ≤ p.1) ∧ 0 < hs.length ∧ FrzA H av ns ∧ firstI ps hs ns = none ∧ Tb L H ∧ ∀ H', UpL L H H' → Q .non H'
section
variable {P : Program} {w : World} {K : PySem.W.Frag} {mg : Str → Option Value} {base : Heap}
theorem ok_rowF (T : D K mg) : FnOk P w K mg base CX0 1 T.f_is_tuple T.d_is_tuple ["value", "low", "high"] spRowF := by
  refine T.U_is_tuple.ok sc_row (fun vs H Q E h => ?_) (fun cdv A outer s H vs Q E hr h => ?_)
  · obtain ⟨v, ns, lo, hi, rfl, _⟩ := h
    rfl
  · obtain ⟨v, ns, lo, hi, rfl, ⟨a, ob, rfl, ea, ed⟩, h1, h2, k⟩ := h
    refine ⟨_, pss_one (ps_ret (pe_and (pe_callB call_isi (by rfl) T.isinstance (by decide +kernel) (pa_cons (pv 0) (pa_cons (pe_bltn (v := .ty "tuple") (by rfl) T.tuple (by decide +kernel) rfl) pa_nil))) (pe_one (pe_chain op_le op_le (pv 1) (pe_callB call_len_seq (by rfl) T.len PySem.boot_len (pa_cons (pv 0) pa_nil)) (pv 2))))), ?_⟩
    refine ⟨_, rfl, _, _, _, _, _, rfl, .ty _, .fTuple ea, kTup (.tuple (ns.map PyData.int)), true, rfl, iteT ?_⟩
    refine ⟨_, rfl, _, rfl, a, _, rfl, .inr (frzT ea), _, _, rfl, rfl, _, rfl, ?_⟩
    rw [List.length_map, if_pos (decide_eq_true h1)]
    refine ⟨_, rfl, _, _, rfl, rfl, ?_⟩
    dsimp only
    rw [decide_eq_true h2]
    exact k
end
end KP

set_option Elab.async false
set_option maxRecDepth 100000
set_option maxHeartbeats 4000000
set_option linter.all false
/-! Ours: t.count(e) of a frozen tuple of numbers. -/
namespace Gr
open PySem PySem.Spec PyProof.Rows L2 GxR
theorem ints_plain : ∀ ns : List Int, PyData.plainAll (ns.map PyData.int) = true
  | [] => rfl
  | n :: ns => by
    have := ints_plain ns
    simp [PyData.plainAll, PyData.plain, this]
theorem ints_count (k : Int) : ∀ ns : List Int, ((ns.map PyData.int).countP fun y => PyData.eqv y (.int k)) = ns.count k
  | [] => rfl
  | n :: ns => by
    rw [List.map_cons, List.countP_cons, ints_count k ns, List.count_cons]
    congr 1
def rCntI (K : PySem.W.Frag) : V → List V → Hp → VK → Prop := fun x xs H Q => ∃ (p : Addr) (ns : List Int) (k : Int), x = .ref p ∧ xs = [.int k] ∧ SqT K H p (ns.map V.int) ∧ Q (.int (ns.count k : Nat)) H
theorem mt_tup_cnt {X : Cx} (hu : X.A.units + 64 < cLine) : MtR X "tuple.count" (rCntI X.K) := by
  intro pins s σ H x xs v us Q I rx rs h
  obtain ⟨p, ns, k, rfl, rfl, hq, q⟩ := h
  cases rx
  obtain ⟨u, rfl, t, rfl⟩ := vals1 rs
  obtain ⟨its, r, pl, hz⟩ := I.tuple hq
  obtain ⟨as, ra⟩ := ints_reads (h := s.heap) r
  refine PySem.SeqAt.count_tuple_data (xs := ns.map PyData.int) (d := .int k) pl (by exact ra) (.int k t) (ints_plain ns) rfl (by have := ints_depth ns; omega) ?_
  rw [ints_count]
  exact ⟨.int _, H, I.tok _, ⟨_, rfl⟩, q⟩
def tCntF (to te : TE) : TE := fun σ H Q => to σ H fun x H1 => ∃ (d : Addr) (o : Obj) (ns : List Int), x = .ref d ∧ H1 d = some (.frz o (.tup (ns.map V.int))) ∧ o.dict = none ∧ te σ H1 fun y H2 => ∃ k : Int, [y] = [V.int k] ∧ H2 d = some (.frz o (.tup (ns.map V.int))) ∧ Q (.int (ns.count k : Nat)) H2
theorem pe_cntF {X : Cx} (hu : X.A.units + 64 < cLine) {o e : Expr} {to te : TE} {p1 p2 : Pos} (ho : PE X o to) (he : PE X e te)
    (h1 : attributeBase o "count" X.env (eval o X.env) = eval o X.env)
    (h2 : ((backTo p2 (starEach [e] X.env)).all (fun x => !x.1) && (backToKw p2 (keywordEach [] X.env)).all (fun x => x.1.isSome) && decide (([e] : List Expr).length + ([] : List Keyword).length + (if ([] : List Keyword).isEmpty then 0 else 1) < 30)) = true)
    (h3 : (p1.endLine == p2.line) = true) (h4 : starEach [e] X.env = (false, eval e X.env) :: starEach [] X.env) (h5 : (backTo p2 (starEach [] X.env)).any (·.1) = false) : PE X (.Call (.Attribute o "count" p1) [e] [] p2) (tCntF to te) := by
  refine ⟨fun pins s σ H Q I hq => wpAny_Call_method_late h1 h2 h3 rfl (thn (ho.run pins s σ H _ I hq) fun v s1 ⟨x, H1, I1, r1, q1⟩ => ?_)⟩
  obtain ⟨d, ob, ns, rfl, e1, e2, q2⟩ := q1
  have ok := I1.hok d _ e1
  obtain ⟨g1, g2, its, g3, oo, g4, g5, g6⟩ := ok
  cases r1
  have eo : ob = oo := Option.some.inj (g1.symm.trans g4)
  refine ⟨"tuple", "tuple.count", PySem.F.plainAttrs_tuple, PySem.F.slot_tuple_count, PySem.F.type_tuple_count, ⟨ob, g1, eo ▸ g5⟩, fun a ea => by cases ea; exact ⟨ob, g1, e2⟩, ?_⟩
  have hA := (pa_cons he pa_nil h4).run p2 pins s1 σ H1 (fun vs H2 => ∃ k : Int, vs = [.int k] ∧ H2 d = some (.frz ob (.tup (ns.map V.int))) ∧ Q (.int (ns.count k : Nat)) H2) I1 q2
  rw [h4] at hA ⊢
  refine Calls.callWith_builtin (by show (false || (backTo p2 (starEach [] X.env)).any (·.1)) = false; rw [h5]; rfl) (Calls.evalArgs_plain (thn hA fun us s2 ⟨vs, H2, I2, r2, k, b, c, q3⟩ => ?_))
  subst b
  exact mt_tup_cnt hu pins s2 σ _ (.ref d) [.int k] _ us Q I2 rfl r2 ⟨d, ns, k, rfl, rfl, .inl (.inr ⟨ob, c⟩), q3⟩
end Gr

set_option Elab.async false
set_option maxRecDepth 100000
set_option maxHeartbeats 4000000
set_option linter.all false
/-! Ours: counts_at of a frozen row. -/
namespace KP
open PySem PySem.Spec PyProof.Rows L2 Gr GxR
def spCntAt (L : List Addr) : Sp := fun vs H Q _ => ∃ (rv av : V) (t : Int) (ps : List (Int × Int)) (hs ns : List Int), vs = [rv, av, .int t] ∧ Od H rv (rulesP ps hs) ∧ Good ps hs ∧ FrzA H av ns ∧ asc 0 ns ∧ ns.length ≤ 200 ∧ firstI ps hs ns = none ∧ 0 ≤ t ∧ (∀ x ∈ ns, x < t) ∧ Tb L H ∧ ∀ z H', UpL L H H' → H' z = some (.tup ((cntL ns t (spanP ps).toNat).map V.int)) → Q (.ref z) H'
section
variable {P : Program} {w : World} {K : PySem.W.Frag} {mg : Str → Option Value} {base : Heap}
end
end KP

set_option Elab.async false
set_option maxRecDepth 100000
set_option maxHeartbeats 4000000
set_option linter.all false
/-! Ours: counts any number of moments later; what a monitor lets: the mathematics. -/
namespace KP
open PySem PySem.Spec PyProof.Rows L2 Gr GxR
theorem rep_tt {K : PySem.W.Frag} {H : Hp} {a : Addr} {x : V} {n : Nat} {Q : VK} (hn : n ≤ 1000) (ha : H a = some (.tup [x])) (k : ∀ p H', Same H H' → H' p = some (.tup (List.replicate n x)) → Q (.ref p) H') : rRepA K (.ref a) (.int (n : Nat)) H Q := by
  have fl : ∀ m : Nat, (List.replicate m [x]).flatten = List.replicate m x := fun m => by
    induction m with
    | zero => rfl
    | succ m ih => rw [List.replicate_succ, List.flatten_cons, ih, List.replicate_succ]; rfl
  refine ⟨a, (n : Nat), [x], rfl, rfl, SqT.of ha, List.cons_ne_nil _ _, by omega, by omega, by show 1 ≤ 1000; decide, fun z => ?_, fun _ p hp => ?_⟩
  · have : n = 1 := by omega
    subst this
    exact k a H (.refl _) ha
  · refine k p _ (same_upd hp) ?_
    rw [upd_same, Int.toNat_natCast, fl]
/-- the counts d moments later, m asked now -/
def shG (d : Int) (m : Int) (cs : List Int) : List Int := (List.replicate (min (d - 1).toNat cs.length) 0 ++ [m] ++ cs).take cs.length
def spShiftG : Sp := fun vs H Q _ => ∃ (cv : V) (m d : Int) (cs : List Int), vs = [cv, .int m, .int d] ∧ Od H cv (.tuple (cs.map PyData.int)) ∧ 1 ≤ d ∧ cs.length ≤ 1000 ∧ ∀ z H', Same H H' → H' z = some (.tup ((shG d m cs).map V.int)) → Q (.ref z) H'
theorem cntL_later {ns : List Int} {t : Int} {L : Nat} (h : ∀ x ∈ ns, x ≤ t) {d : Int} (hd : 1 ≤ d) : shG d ((ns.count t : Nat) : Int) (cntL ns t L) = cntL ns (t + d) L := by
  unfold shG
  rw [cntL_len]
  refine List.ext_getElem ?_ fun j h1 h2 => ?_
  · rw [List.length_take, List.length_append, List.length_append, List.length_replicate, cntL_len, cntL_len]
    show min L (min (d - 1).toNat L + 1 + L) = L
    omega
  · rw [cntL_len] at h2
    have e2 : (cntL ns (t + d) L)[j] = ((ns.count (t + d - 1 - (j : Int)) : Nat) : Int) := by simp [cntL]
    rw [e2, List.getElem_take]
    by_cases z : j < min (d - 1).toNat L
    · rw [List.getElem_append_left (by rw [List.length_append, List.length_replicate]; show _ < _ + 1; omega), List.getElem_append_left (by rw [List.length_replicate]; exact z), List.getElem_replicate, List.count_eq_zero.mpr fun hx => by have := h _ hx; omega]
      rfl
    · by_cases y : j = min (d - 1).toNat L
      · have hj : j = (d - 1).toNat := by omega
        rw [List.getElem_append_left (by rw [List.length_append, List.length_replicate]; show _ < _ + 1; omega), List.getElem_append_right (by rw [List.length_replicate]; omega)]
        simp only [List.length_replicate, show j - min (d - 1).toNat L = 0 by omega]
        show ((ns.count t : Nat) : Int) = _
        rw [show t + d - 1 - (j : Int) = t by omega]
      · have hj : (d - 1).toNat < j := by omega
        have hw : min (d - 1).toNat L = (d - 1).toNat := by omega
        rw [List.getElem_append_right (by rw [List.length_append, List.length_replicate]; show _ + 1 ≤ j; omega)]
        simp only [List.length_append, List.length_replicate, List.length_cons, List.length_nil, hw]
        simp only [cntL, List.getElem_map, List.getElem_range]
        rw [show t - 1 - ((j - ((d - 1).toNat + (0 + 1)) : Nat) : Int) = t + d - 1 - (j : Int) by omega]
/-- a monitor's asks, up to its moment -/
structure Stn (ps : List (Int × Int)) (hs ns : List Int) (t : Int) : Prop where
  asc : asc 0 ns
  top : ∀ x ∈ ns, x ≤ t
  opn : ∀ x ∈ ns, openI hs x = true
  full : Full ps ns
  t0 : 0 ≤ t
theorem Stn.later {ps : List (Int × Int)} {hs ns : List Int} {t u : Int} (s : Stn ps hs ns t) (h : t ≤ u) : Stn ps hs ns u := ⟨s.asc, fun x hx => by have := s.top x hx; omega, s.opn, s.full, by have := s.t0; omega⟩
theorem above_top {ns : List Int} {t : Int} (h : ∀ x ∈ ns, x ≤ t) : above t ns = 0 := List.countP_eq_zero.mpr fun x hx hd => by
  have := h x hx
  have := of_decide_eq_true hd
  omega
theorem Stn.cap {ps : List (Int × Int)} {hs ns : List Int} {t : Int} (s : Stn ps hs ns t) {p : Int × Int} (hp : p ∈ ps) : ((above (t - p.2) ns : Nat) : Int) ≤ p.1 := by
  have := s.full p hp t
  rw [above_top s.top] at this
  omega
/-- the asks ahead of a moment -/
theorem above_part {ns : List Int} {t c : Int} (h : ∀ x ∈ ns, x ≤ t) (hc : c < t) : above c ns = above c (ns.filter fun x => decide (x < t)) + ns.count t := by
  induction ns with
  | nil => rfl
  | cons a l ih =>
    have hl := ih fun x hx => h x (List.mem_cons_of_mem _ hx)
    have ha := h a List.mem_cons_self
    unfold above at hl ⊢
    rw [List.countP_cons, List.count_cons, hl]
    by_cases z : a < t
    · rw [List.filter_cons_of_pos (by exact decide_eq_true z), List.countP_cons, if_neg (show ¬ (a == t) = true by simp; omega)]
      omega
    · have : a = t := by omega
      subst this
      rw [List.filter_cons_of_neg (by simp), if_pos (by simpa using hc), if_pos (by simp)]
      omega
theorem cntL_part (ns : List Int) (t : Int) (L : Nat) : cntL ns t L = cntL (ns.filter fun x => decide (x < t)) t L := by
  unfold cntL
  refine List.map_congr_left fun j _ => ?_
  congr 1
  rw [List.count_filter (by exact decide_eq_true (by omega))]
theorem may_now {ps : List (Int × Int)} {hs ns : List Int} {t n : Int} {L : Nat} (s : Stn ps hs ns t) (hp : ∀ p ∈ ps, 1 ≤ p.2 ∧ p.2 - 1 ≤ L) (n0 : 0 ≤ n) : hasB (roomC ps hs t (cntL ns t L)) (((ns.count t : Nat) : Int) + n) = mayI ps hs ns t n := by
  have hr : ∀ x ∈ ns.filter (fun x => decide (x < t)), x < t := fun x hx => of_decide_eq_true (List.mem_filter.mp hx).2
  have hab : ∀ p ∈ ps, above (t - p.2) ns = above (t - p.2) (ns.filter fun x => decide (x < t)) + ns.count t := fun p hp' => above_part s.top (by have := hp p hp'; omega)
  rw [cntL_part, has_may hr hp (fun p hp' => by have := s.cap hp'; have := hab p hp'; omega) (by omega)]
  unfold mayI
  by_cases z : n = 0
  · subst z
    rw [decide_eq_true (Int.le_refl 0), Bool.true_or]
    by_cases y : ns.count t = 0
    · rw [y]; rfl
    · rw [Bool.or_eq_true, Bool.and_eq_true]
      refine .inr ⟨s.opn t (List.count_pos_iff.mp (by omega)), List.all_eq_true.mpr fun p hp' => decide_eq_true ?_⟩
      have := s.cap hp'
      have := hab p hp'
      omega
  · rw [decide_eq_false (by omega), decide_eq_false (by omega), Bool.false_or, Bool.false_or]
    congr 1
    refine Bool.eq_iff_iff.mpr ?_
    rw [List.all_eq_true, List.all_eq_true]
    constructor
    · intro h p hp'
      have a := of_decide_eq_true (h p hp')
      have := hab p hp'
      exact decide_eq_true (by omega)
    · intro h p hp'
      have a := of_decide_eq_true (h p hp')
      have := hab p hp'
      exact decide_eq_true (by omega)
end KP

set_option Elab.async false
set_option maxRecDepth 100000
set_option maxHeartbeats 4000000
set_option linter.all false
/-! Ours: data of tuples alone: it stands as long as the tuples stand; lists of such that grow; cuts between statements. -/
namespace Gr
open PySem PySem.Spec PyProof.Rows L2 GxR
mutual
/-- no list and no dict within -/
def tupD : PyData → Bool
  | .none => true
  | .bool _ => true
  | .int _ => true
  | .str _ => true
  | .list _ => false
  | .tuple xs => tupDs xs
  | .dict _ => false
def tupDs : List PyData → Bool
  | [] => true
  | x :: xs => tupD x && tupDs xs
end
theorem tupDs_of : ∀ {ds : List PyData}, (∀ d ∈ ds, tupD d = true) → tupDs ds = true
  | [], _ => by simp [tupDs]
  | d :: ds, h => by
    simp only [tupDs, Bool.and_eq_true]
    exact ⟨h d List.mem_cons_self, tupDs_of fun x hx => h x (List.mem_cons_of_mem _ hx)⟩
theorem tupDs_mem : ∀ {ds : List PyData}, tupDs ds = true → ∀ d ∈ ds, tupD d = true
  | [], _, d, h => nomatch h
  | e :: ds, h, d, hd => by
    simp only [tupDs, Bool.and_eq_true] at h
    rcases List.mem_cons.mp hd with q | q
    · rw [q]; exact h.1
    · exact tupDs_mem h.2 d q
theorem tupD_tup {ds : List PyData} (h : ∀ d ∈ ds, tupD d = true) : tupD (.tuple ds) = true := by
  simp only [tupD]
  exact tupDs_of h
theorem tupD_ints (ns : List Int) : tupD (.tuple (ns.map PyData.int)) = true := tupD_tup fun d hd => by
  obtain ⟨n, _, rfl⟩ := List.mem_map.mp hd
  simp [tupD]
/-- the tuples stand -/
def TupStay (H H' : Hp) : Prop := ∀ a xs, H a = some (.tup xs) → H' a = some (.tup xs)
theorem TupStay.refl (H : Hp) : TupStay H H := fun _ _ e => e
theorem TupStay.trans {H H1 H2 : Hp} (a : TupStay H H1) (b : TupStay H1 H2) : TupStay H H2 := fun x xs e => b x xs (a x xs e)
theorem same_ts {H H' : Hp} (s : Same H H') : TupStay H H' := fun a xs e => s a _ e
theorem stay_ts {H H' : Hp} (s : Stay H H') : TupStay H H' := fun a xs e => s a _ e fun _ q => nomatch q
theorem ts_but {H H' : Hp} {p : Addr} {ys : List V} (e : H p = some (.lst ys)) (b : ∀ b o, H b = some o → b ≠ p → H' b = some o) : TupStay H H' := fun a xs q => b a _ q fun z => by
  rw [z, e] at q
  cases q
theorem ts_put {H : Hp} {D : Addr} {ys : List V} {o : HO} (e : H D = some (.lst ys)) : TupStay H (upd H D o) := fun a xs q => (upd_ne fun z => by
  rw [z, e] at q
  cases q).trans q
theorem ts_new {H : Hp} {D : Addr} {o : HO} (e : H D = none) : TupStay H (upd H D o) := fun a xs q => (upd_ne fun z => by
  rw [z, e] at q
  cases q).trans q
mutual
theorem Od.ts {H H' : Hp} (s : TupStay H H') : ∀ {v : V} {d : PyData}, Od H v d → tupD d = true → Od H' v d
  | _, _, .non, _ => .non
  | _, _, .bl b, _ => .bl b
  | _, _, .int i, _ => .int i
  | _, _, .str x, _ => .str x
  | _, _, .lst e a, h => by simp [tupD] at h
  | _, _, .tup e a, h => .tup (s _ _ e) (OdAll.ts s a (by simpa [tupD] using h))
  | _, _, .dic e a b, h => by simp [tupD] at h
theorem OdAll.ts {H H' : Hp} (s : TupStay H H') : ∀ {vs : List V} {ds : List PyData}, OdAll H vs ds → tupDs ds = true → OdAll H' vs ds
  | _, _, .nil, _ => .nil
  | _, _, .cons a b, h => by
    simp only [tupDs, Bool.and_eq_true] at h
    exact .cons (Od.ts s a h.1) (OdAll.ts s b h.2)
end
theorem Od.unhide {H : Hp} {ls : List Addr} {v : V} {d : PyData} (o : Od (hide H ls) v d) : Od H v d := o.same (hide_same _ _)
/-- at D a list of data of tuples -/
def LstT (H : Hp) (D : Addr) (ds : List PyData) : Prop := ∃ vs, H D = some (.lst vs) ∧ OdAll H vs ds ∧ tupDs ds = true
theorem LstT.at {H : Hp} {D : Addr} (e : H D = some (.lst [])) : LstT H D [] := ⟨[], e, .nil, by simp [tupDs]⟩
theorem LstT.ts {H H' : Hp} {D : Addr} {ds : List PyData} (h : LstT H D ds) (s : TupStay H H') (e : ∀ vs, H D = some (.lst vs) → H' D = some (.lst vs)) : LstT H' D ds :=
  let ⟨vs, a, b, t⟩ := h; ⟨vs, e _ a, b.ts s t, t⟩
theorem LstT.same {H H' : Hp} {D : Addr} {ds : List PyData} (h : LstT H D ds) (s : Same H H') : LstT H' D ds := h.ts (same_ts s) fun vs e => s _ _ e
theorem tupDs_app {ds es : List PyData} (h : tupDs ds = true) (k : tupDs es = true) : tupDs (ds ++ es) = true := tupDs_of fun d hd => by
  rcases List.mem_append.mp hd with q | q
  · exact tupDs_mem h d q
  · exact tupDs_mem k d q
theorem LstT.put {H : Hp} {D : Addr} {ds : List PyData} {vs : List V} {v : V} {d : PyData} (h : LstT H D ds) (e : H D = some (.lst vs)) (o : Od H v d) (t : tupD d = true) : LstT (upd H D (.lst (vs ++ [v]))) D (ds ++ [d]) := by
  obtain ⟨us, a, b, td⟩ := h
  obtain rfl : us = vs := by rw [a] at e; cases e; rfl
  have s : TupStay H (upd H D (.lst (us ++ [v]))) := ts_put a
  have t1 : tupDs [d] = true := by simp [tupDs, t]
  exact ⟨_, upd_same, (b.ts s td).app ((OdAll.cons o .nil).ts s t1), tupDs_app td t1⟩
theorem LstT.len {H : Hp} {D : Addr} {ds : List PyData} {vs : List V} (h : LstT H D ds) (e : H D = some (.lst vs)) : vs.length = ds.length := by
  obtain ⟨us, a, b, _⟩ := h
  rw [a] at e
  cases e
  exact b.len
/-- its things as a new tuple -/
theorem LstT.tup {H : Hp} {D R : Addr} {ds : List PyData} {vs : List V} (h : LstT H D ds) (e : H D = some (.lst vs)) (hR : H R = none) : Od (upd H R (.tup vs)) (.ref R) (.tuple ds) := by
  obtain ⟨us, a, b, td⟩ := h
  rw [a] at e
  cases e
  exact .tup upd_same (b.ts (ts_new hR) td)
theorem od_at {H : Hp} : ∀ {vs : List V} {ds : List PyData}, OdAll H vs ds → ∀ {i : Nat} {v : V}, vs[i]? = some v → ∃ d, ds[i]? = some d ∧ Od H v d
  | _, _, .nil, _, _, e => by cases e
  | _, _, .cons a b, 0, _, e => by
    cases e
    exact ⟨_, rfl, a⟩
  | _, _, .cons a b, i + 1, v, e => od_at b (i := i) (by simpa using e)
/-- a statement, then what follows, by what stands between them -/
theorem cut1 {A C : TS} {D : Ends} {σ : L2.St} {H : Hp} (R : L2.St → Hp → Prop) (ha : ∀ N : L2.St → Hp → Prop, (∀ σ' H', R σ' H' → N σ' H') → A { D with nx := N } σ H) (hc : ∀ σ' H', R σ' H' → C D σ' H') : tSeq A C D σ H := ha (C D) hc
/-- two statements, then what follows -/
theorem cut2 {A B C : TS} {D : Ends} {σ : L2.St} {H : Hp} (R : L2.St → Hp → Prop) (ha : ∀ N : L2.St → Hp → Prop, (∀ σ' H', R σ' H' → N σ' H') → tSeq A B { D with nx := N } σ H) (hc : ∀ σ' H', R σ' H' → C D σ' H') : tSeq A (tSeq B C) D σ H := ha (C D) hc
end Gr

set_option Elab.async false
set_option maxRecDepth 100000
set_option maxHeartbeats 4000000
set_option linter.all false
/-! Ours: Monitor: what stands, what it tells, lets, ask. -/
namespace KP
open PySem PySem.Spec PyProof.Rows L2 Gr GxR
theorem full_next2 {ps : List (Int × Int)} {ns : List Int} {t : Int} (hp : ∀ p ∈ ps, 1 ≤ p.1 ∧ 1 ≤ p.2) (f : Full ps ns) {m : Nat} (hm : ∀ p ∈ ps, 0 < m → ((above (t - p.2) ns : Nat) : Int) + (m : Int) ≤ p.1) : Full ps (ns ++ List.replicate m t) := fun p hp' x => by
  have q := hp p hp'
  have f1 := f p hp' x
  have ab : ∀ c : Int, above c (ns ++ List.replicate m t) = above c ns + (if c < t then m else 0) := fun c => by
    unfold above
    rw [List.countP_append]
    congr 1
    by_cases z : c < t
    · rw [if_pos z, List.countP_replicate, if_pos (decide_eq_true z)]
    · rw [if_neg z, List.countP_replicate, if_neg (by simpa using z)]
  rw [ab, ab]
  by_cases z : x < t
  · rw [if_pos z, if_pos (by omega)]
    omega
  · rw [if_neg z]
    by_cases y : x - p.2 < t
    · rw [if_pos y]
      by_cases m0 : 0 < m
      · have a := hm p hp' m0
        have b := above_mono ns (show t - p.2 ≤ x - p.2 by omega)
        omega
      · omega
    · rw [if_neg y]
      omega
theorem asc_app : ∀ {l : List Int} {m : Int} {r : List Int}, asc m l → (∀ x ∈ l, ∀ y ∈ r, x ≤ y) → asc m r → asc m (l ++ r)
  | [], _, _, _, _, h => h
  | a :: l, m, r, h, h1, h2 => ⟨h.1, asc_app h.2 (fun x hx => h1 x (List.mem_cons_of_mem _ hx)) (by
    cases r with
    | nil => trivial
    | cons b r => exact ⟨h1 a List.mem_cons_self b List.mem_cons_self, h2.2⟩)⟩
theorem asc_rep {m u : Int} (h : m ≤ u) : ∀ n : Nat, asc m (List.replicate n u)
  | 0 => trivial
  | n + 1 => ⟨h, asc_rep (Int.le_refl u) n⟩
theorem Stn.ask {ps : List (Int × Int)} {hs ns : List Int} {t u : Int} {n : Nat} (s : Stn ps hs ns t) (hu : t ≤ u) (hp : ∀ p ∈ ps, 1 ≤ p.1 ∧ 1 ≤ p.2) (hm : mayI ps hs ns u (n : Nat) = true) : Stn ps hs (ns ++ List.replicate n u) u := by
  have hmm : 0 < n → openI hs u = true ∧ ∀ p ∈ ps, ((above (u - p.2) ns : Nat) : Int) + (n : Int) ≤ p.1 := fun h => by
    unfold mayI at hm
    rw [decide_eq_false (by omega), Bool.false_or, Bool.and_eq_true] at hm
    exact ⟨hm.1, fun p hp' => of_decide_eq_true (List.all_eq_true.mp hm.2 p hp')⟩
  refine ⟨asc_app s.asc (fun x hx y hy => ?_) (asc_rep (by have := s.t0; omega) n), fun x hx => ?_, fun x hx => ?_, full_next2 hp s.full fun p hp' h => (hmm h).2 p hp', by have := s.t0; omega⟩
  · have := s.top x hx
    rw [List.eq_of_mem_replicate hy]
    omega
  · rcases List.mem_append.mp hx with z | z
    · have := s.top x z; omega
    · rw [List.eq_of_mem_replicate z]; exact Int.le_refl _
  · rcases List.mem_append.mp hx with z | z
    · exact s.opn x z
    · rw [List.eq_of_mem_replicate z]
      refine (hmm ?_).1
      cases n with
      | zero => cases z
      | succ n => exact Nat.succ_pos _
theorem cnt_ask {ns : List Int} {t u : Int} (h : ∀ x ∈ ns, x ≤ t) (hu : t ≤ u) (n : Nat) : (if u = t then ns.count t else 0) + n = (ns ++ List.replicate n u).count u := by
  rw [List.count_append, List.count_replicate_self]
  by_cases z : u = t
  · subst z
    rw [if_pos rfl]
  · rw [if_neg z, List.count_eq_zero.mpr fun hx => by have := h _ hx; omega]
theorem cntL_ask (ns : List Int) (u : Int) (n L : Nat) : cntL (ns ++ List.replicate n u) u L = cntL ns u L := by
  unfold cntL
  refine List.map_congr_left fun j _ => ?_
  congr 1
  rw [List.count_append, List.count_eq_zero (a := u - 1 - (j : Int)) (l := List.replicate n u) |>.mpr fun hx => by have := List.eq_of_mem_replicate hx; omega, Nat.add_zero]
theorem tup_rules (ps : List (Int × Int)) (hs : List Int) : tupD (rulesP ps hs) = true := tupD_tup fun d hd => by
  simp only [List.mem_cons, List.not_mem_nil, or_false] at hd
  rcases hd with rfl | rfl
  · exact tupD_tup fun d hd => by
      obtain ⟨q, hq, rfl⟩ := List.mem_map.mp hd
      obtain ⟨p, _, rfl⟩ := List.mem_map.mp hq
      simp [tw, inD, tupD, tupDs]
  · exact tupD_ints hs
theorem foldl_ge : ∀ (l : List Int) (n : Int), n ≤ l.foldl max n ∧ ∀ x ∈ l, x ≤ l.foldl max n
  | [], n => ⟨Int.le_refl _, fun _ h => nomatch h⟩
  | a :: l, n => by
    obtain ⟨h1, h2⟩ := foldl_ge l (max n a)
    rw [List.foldl_cons]
    refine ⟨by omega, fun x hx => ?_⟩
    rcases List.mem_cons.mp hx with z | z
    · rw [z]; omega
    · exact h2 x z
theorem span_wide {ps : List (Int × Int)} (h : Lim ps) {p : Int × Int} (hp : p ∈ ps) : p.2 - 1 ≤ spanP ps := by
  unfold spanP
  cases ps with
  | nil => cases hp
  | cons q l =>
    have := foldl_ge (l.map (·.2)) q.2
    show p.2 - 1 ≤ (l.map (·.2)).foldl max q.2 - 1
    rcases List.mem_cons.mp hp with z | z
    · rw [z]; omega
    · have := this.2 p.2 (List.mem_map.mpr ⟨p, z, rfl⟩)
      omega
abbrev monF (rv : V) (t : Int) (cv : V) (m : Int) (ea : Addr) : List (Str × V) := [("_rules", rv), ("_moment", .int t), ("_counts", cv), ("_asked", .int m), ("_earlier", .ref ea)]
def MonAt {K : PySem.W.Frag} {mg : Str → Option Value} (T : D K mg) (H : Hp) (a ea : Addr) (k : Nat) (rv : V) (ps : List (Int × Int)) (hs ns : List Int) (t : Int) : Prop :=
  ∃ (dx : Addr) (cv : V) (es : List V), H a = some (.ins T.C_Monitor dx (monF rv t cv ((ns.count t : Nat) : Int) ea)) ∧ H ea = some (.lst es) ∧ es.length ≤ k ∧ IsI H cv (cntL ns t (spanP ps).toNat) ∧ Od H rv (rulesP ps hs)
theorem MonAt.same {K : PySem.W.Frag} {mg : Str → Option Value} {T : D K mg} {H H' : Hp} {a ea : Addr} {k : Nat} {rv : V} {ps : List (Int × Int)} {hs ns : List Int} {t : Int} (h : MonAt T H a ea k rv ps hs ns t) (s : Same H H') : MonAt T H' a ea k rv ps hs ns t := by
  obtain ⟨dx, cv, es, h1, h2, h3, h4, h5⟩ := h
  exact ⟨dx, cv, es, s _ _ h1, s _ _ h2, h3, h4.same s, h5.same s⟩
def spCkM {K : PySem.W.Frag} {mg : Str → Option Value} (T : D K mg) : Sp := fun vs H Q _ => ∃ (a ea : Addr) (k : Nat) (rv : V) (ps : List (Int × Int)) (hs ns : List Int) (t u n : Int), vs = [.ref a, .int u, .int n] ∧ MonAt T H a ea k rv ps hs ns t ∧ t ≤ u ∧ 0 ≤ n ∧ n ≤ 100 ∧ Q .non H
def spCtM {K : PySem.W.Frag} {mg : Str → Option Value} (T : D K mg) : Sp := fun vs H Q _ => ∃ (a ea : Addr) (k : Nat) (rv : V) (ps : List (Int × Int)) (hs ns : List Int) (t u : Int), vs = [.ref a, .int u] ∧ MonAt T H a ea k rv ps hs ns t ∧ Good ps hs ∧ (∀ x ∈ ns, x ≤ t) ∧ t ≤ u ∧ ∀ z H', Same H H' → IsI H' z (cntL ns u (spanP ps).toNat) → Q z H'
def spAtM {K : PySem.W.Frag} {mg : Str → Option Value} (T : D K mg) : Sp := fun vs H Q _ => ∃ (a ea : Addr) (k : Nat) (rv : V) (ps : List (Int × Int)) (hs ns : List Int) (t u : Int), vs = [.ref a, .int u] ∧ MonAt T H a ea k rv ps hs ns t ∧ Q (.int (if u = t then ((ns.count t : Nat) : Int) else 0)) H
def spLetM {K : PySem.W.Frag} {mg : Str → Option Value} (T : D K mg) : Sp := fun vs H Q _ => ∃ (a ea : Addr) (k : Nat) (rv : V) (ps : List (Int × Int)) (hs ns : List Int) (t u n : Int), vs = [.ref a, .int u, .int n] ∧ MonAt T H a ea k rv ps hs ns t ∧ Good ps hs ∧ Stn ps hs ns t ∧ t ≤ u ∧ 0 ≤ n ∧ n ≤ 100 ∧ ∀ H', Same H H' → Q (.bl (mayI ps hs ns u n)) H'
def spAskM {K : PySem.W.Frag} {mg : Str → Option Value} (T : D K mg) : Sp := fun vs H Q _ => ∃ (a ea : Addr) (k : Nat) (rv : V) (ps : List (Int × Int)) (hs ns : List Int) (t u : Int) (n : Nat), vs = [.ref a, .int u, .int (n : Nat)] ∧ MonAt T H a ea k rv ps hs ns t ∧ a ≠ ea ∧ Good ps hs ∧ Stn ps hs ns t ∧ t ≤ u ∧ n ≤ 100 ∧ k ≤ 4000 ∧ mayI ps hs ns u (n : Nat) = true ∧
  ∀ H', (∀ b o, H b = some o → b ≠ a → b ≠ ea → H' b = some o) → MonAt T H' a ea (k + 1) rv ps hs (ns ++ List.replicate n u) u → Q .non H'
section
variable {P : Program} {w : World} {K : PySem.W.Frag} {mg : Str → Option Value} {base : Heap}
theorem sc_shiftG : FnScope ["counts", "many", "moments", "span", "waited"] ["counts", "many", "moments"] (defScope s_shifted) := ⟨rfl, rfl, rfl, by decide +kernel, rfl, by decide +kernel, by decide +kernel⟩
theorem ok_shiftG (T : D K mg) : FnOk P w K mg base CX0 1 T.f_shifted T.d_shifted ["counts", "many", "moments"] spShiftG := by
  refine T.U_shifted.ok sc_shiftG (fun vs H Q E h => ?_) (fun cdv A outer s H vs Q E hr h => ?_)
  · obtain ⟨cv, m, d, cs, rfl, _⟩ := h
    rfl
  · obtain ⟨cv, m, d, cs, rfl, hC, hd, hl, k⟩ := h
    have nd := sc_shiftG.nd
    have mz : 5000 ≤ sizeLine := by decide
    refine ⟨_, pss_cons (ps_set (i := 3) nd rfl (.inl rfl) (pe_callB call_len_seq (by rfl) T.len PySem.boot_len (pa_cons (pv 0) pa_nil)))
      (pss_cons (ps_set (i := 4) nd rfl (.inl rfl) (pe_callB (call_min2 rfl) (by rfl) T.min boot_min (pa_cons (pe_op op_sub (pv 2) pe_int) (pa_cons (pv 3) pa_nil))))
      (pss_one (ps_ret (pe_slice sl_tupA (pe_op op_catA (pe_op op_catA (pe_op op_repA (pe_tup (pa_cons pe_int pa_nil)) (pv 4)) (pe_tup (pa_cons (pv 1) pa_nil))) (pv 0)) po_none (po_some (pv 3)))))), ?_⟩
    obtain ⟨ca, rfl, ec⟩ := od_I hC
    refine ⟨_, rfl, ca, _, rfl, .inr (SqT.of ec), gn ?_⟩
    rw [List.length_map]
    dsimp only
    refine ⟨_, rfl, _, _, rfl, rfl, _, rfl, _, _, rfl, gn ?_⟩
    dsimp only
    obtain ⟨wn, hwn⟩ : ∃ wn : Nat, wn = min (d - 1).toNat cs.length := ⟨_, rfl⟩
    rw [show (if ((cs.length : Nat) : Int) < d - 1 then ((cs.length : Nat) : Int) else d - 1) = ((wn : Nat) : Int) from by split <;> omega]
    refine ⟨by show 1 ≤ sizeLine; omega, fun a ha => ⟨_, rfl, ?_⟩⟩
    have sa := same_upd (o := HO.tup [V.int 0]) ha
    refine rep_tt (n := wn) (by omega) upd_same fun b H2 sb eb => ?_
    have s2 := sa.trans sb
    refine ⟨_, rfl, by show 1 ≤ sizeLine; omega, fun c hc => ?_⟩
    have sc := same_upd (o := HO.tup [V.int m]) hc
    refine cat_tt (sc _ _ eb) upd_same (by rw [List.length_replicate]; show _ + 1 ≤ sizeLine; omega) fun p1 H3 s3 e3 => ⟨_, rfl, ?_⟩
    have s4 := s2.trans (sc.trans s3)
    refine cat_tt e3 (s4 _ _ ec) (by rw [List.length_map, List.length_append, List.length_replicate]; show _ + 1 + _ ≤ sizeLine; omega) fun p2 H4 s5 e4 => ?_
    dsimp only [tNoPart]
    refine ⟨_, rfl, _, rfl, slice_tt (by omega) e4 fun p3 H5 s6 e5 => ?_⟩
    refine k p3 H5 (s4.trans (s5.trans s6)) ?_
    rw [e5, Int.toNat_natCast]
    unfold shG
    rw [hwn, List.map_take, List.map_append, List.map_append, List.map_replicate]
    rfl
theorem sc_ckm : FnScope ["self", "moment", "many"] ["self", "moment", "many"] (defScope s__check) := ⟨rfl, rfl, rfl, by decide +kernel, rfl, by decide +kernel, by decide +kernel⟩
theorem ok_ckm (T : D K mg) : FnOk P w K mg base CX0 5 T.f__check T.d__check ["self", "moment", "many"] (spCkM T) := by
  refine T.U__check.ok sc_ckm (fun vs H Q E h => ?_) (fun cdv A outer s H vs Q E hr h => ?_)
  · obtain ⟨a, ea, k, rv, ps, hs, ns, t, u, n, rfl, _⟩ := h
    rfl
  · obtain ⟨a, ea, kk, rv, ps, hs, ns, t, u, n, rfl, ⟨dx, cv, es, h1, h2, h3, h4, h5⟩, hu, n0, n1, k⟩ := h
    refine ⟨_, pss_cons (ps_expr (pe_call (ok_from T) (hr.mono (by decide)) rfl T.g_check_from T.U_check_from.kp T.b_check_from .nil pass0 (pa_cons (pv 1) (pa_cons (pe_fld (pv 0) rfl) pa_nil))))
      (pss_one (ps_expr (pe_call (ok_amt T) hr rfl T.g_check_amount T.U_check_amount.kp T.b_check_amount .nil pass0 (pa_cons (pv 2) pa_nil)))), ?_⟩
    refine ⟨_, rfl, _, rfl, a, _, _, _, _, rfl, h1, T.cl_Monitor, T.n__moment, rfl, u, t, rfl, hu, ?_⟩
    exact ⟨_, rfl, n, rfl, n0, n1, k⟩
theorem sc_ctm : FnScope ["self", "moment"] ["self", "moment"] (defScope s__counts_then) := ⟨rfl, rfl, rfl, by decide +kernel, rfl, by decide +kernel, by decide +kernel⟩
theorem ok_ctm (T : D K mg) : FnOk P w K mg base CX0 2 T.f__counts_then T.d__counts_then ["self", "moment"] (spCtM T) := by
  refine T.U__counts_then.ok sc_ctm (fun vs H Q E h => ?_) (fun cdv A outer s H vs Q E hr h => ?_)
  · obtain ⟨a, ea, k, rv, ps, hs, ns, t, u, rfl, _⟩ := h
    rfl
  · obtain ⟨a, ea, kk, rv, ps, hs, ns, t, u, rfl, ⟨dx, cv, es, h1, h2, h3, h4, h5⟩, g, htop, hu, k⟩ := h
    refine ⟨_, pss_cons (ps_if (pt_cmpR op_eq (pv 1) (pe_fld (pv 0) rfl) (nomark _))
        (pss_one (ps_ret (pe_fld (pv 0) rfl)))
        (pss_nil))
      (pss_one (ps_ret (pe_call (ok_shiftG T) hr rfl T.g_shifted T.U_shifted.kp T.b_shifted .nil pass0 (pa_cons (pe_fld (pv 0) rfl) (pa_cons (pe_fld (pv 0) rfl) (pa_cons (pe_op op_sub (pv 1) (pe_fld (pv 0) rfl)) pa_nil)))))), ?_⟩
    refine ⟨_, rfl, _, rfl, a, _, _, _, _, rfl, h1, T.cl_Monitor, T.n__moment, rfl, rfl, _, rfl, ite2 (fun e => ?_) (fun e => next_of ?_)⟩
    · have e := of_decide_eq_true e
      cases e
      exact ⟨_, rfl, a, _, _, _, _, rfl, h1, T.cl_Monitor, T.n__counts, rfl, k cv H (.refl _) h4⟩
    · have hut : u ≠ t := fun z => e (decide_eq_true (by rw [z]))
      have sb := span_bound g.lim
      refine ⟨_, rfl, a, _, _, _, _, rfl, h1, T.cl_Monitor, T.n__counts, rfl, _, rfl, a, _, _, _, _, rfl, h1, T.cl_Monitor, T.n__asked, rfl, _, rfl, _, rfl, a, _, _, _, _, rfl, h1, T.cl_Monitor, T.n__moment, rfl, _, _, rfl, rfl, cv, _, u - t, cntL ns t (spanP ps).toNat, rfl, h4.od, by omega, by rw [cntL_len]; omega, fun z H' s' ez => ?_⟩
      refine k (.ref z) H' s' ⟨z, rfl, ?_⟩
      rw [ez, cntL_later htop (by omega), show t + (u - t) = u by omega]
theorem sc_atm : FnScope ["self", "moment"] ["self", "moment"] (defScope s__asked_then) := ⟨rfl, rfl, rfl, by decide +kernel, rfl, by decide +kernel, by decide +kernel⟩
theorem ok_atm (T : D K mg) : FnOk P w K mg base CX0 1 T.f__asked_then T.d__asked_then ["self", "moment"] (spAtM T) := by
  refine T.U__asked_then.ok sc_atm (fun vs H Q E h => ?_) (fun cdv A outer s H vs Q E hr h => ?_)
  · obtain ⟨a, ea, k, rv, ps, hs, ns, t, u, rfl, _⟩ := h
    rfl
  · obtain ⟨a, ea, kk, rv, ps, hs, ns, t, u, rfl, ⟨dx, cv, es, h1, h2, h3, h4, h5⟩, k⟩ := h
    refine ⟨_, pss_one (ps_ret (pe_ifExp (pt_cmpR op_eq (pv 1) (pe_fld (pv 0) rfl) (nomark _)) (pe_fld (pv 0) rfl) pe_int)), ?_⟩
    refine ⟨_, rfl, _, rfl, a, _, _, _, _, rfl, h1, T.cl_Monitor, T.n__moment, rfl, rfl, _, rfl, ite2 (fun e => ?_) (fun e => ?_)⟩
    · have e := of_decide_eq_true e
      cases e
      rw [if_pos rfl] at k
      exact ⟨_, rfl, a, _, _, _, _, rfl, h1, T.cl_Monitor, T.n__asked, rfl, k⟩
    · have hut : u ≠ t := fun z => e (decide_eq_true (by rw [z]))
      rw [if_neg hut] at k
      exact k
theorem sc_letm : FnScope ["self", "moment", "many"] ["self", "moment", "many"] (defScope s_lets) := ⟨rfl, rfl, rfl, by decide +kernel, rfl, by decide +kernel, by decide +kernel⟩
theorem ok_letm (T : D K mg) : FnOk P w K mg base CX0 6 T.f_lets T.d_lets ["self", "moment", "many"] (spLetM T) := by
  refine okN T.W_lets sc_letm (fun vs H Q E h => ?_) (fun cdv A outer s H vs Q E hr h => ?_)
  · obtain ⟨a, ea, k, rv, ps, hs, ns, t, u, n, rfl, _⟩ := h
    rfl
  · obtain ⟨a, ea, kk, rv, ps, hs, ns, t, u, n, rfl, hM, g, st, hu, n0, n1, k⟩ := h
    refine ⟨_, pss_cons (ps_expr (pe_meth (pv 0) T.cl_Monitor T.M__check (ok_ckm T) hr T.b__check .nil pass0 (pa_cons (pv 1) (pa_cons (pv 2) pa_nil))))
      (pss_one (ps_ret (pe_call (ok_has T) (hr.mono (by decide)) rfl T.g_has_room T.U_has_room.kp T.b_has_room .nil pass0 (pa_cons (pe_fld (pv 0) rfl) (pa_cons (pv 1) (pa_cons (pe_meth (pv 0) T.cl_Monitor T.M__counts_then (ok_ctm T) (hr.mono (by decide)) T.b__counts_then .nil pass0 (pa_cons (pv 1) pa_nil)) (pa_cons (pe_op op_add (pe_meth (pv 0) T.cl_Monitor T.M__asked_then (ok_atm T) (hr.mono (by decide)) T.b__asked_then .nil pass0 (pa_cons (pv 1) pa_nil)) (pv 2)) pa_nil))))))), ?_⟩
    obtain ⟨dx, cv, es, h1, h2, h3, h4, h5⟩ := id hM
    refine ⟨_, rfl, a, _, _, rfl, h1, rfl, _, rfl, _, rfl, a, ea, kk, rv, ps, hs, ns, t, u, n, rfl, hM, hu, n0, n1, ?_⟩
    refine ⟨_, rfl, a, _, _, _, _, rfl, h1, T.cl_Monitor, T.n__rules, rfl, _, rfl, _, rfl, a, _, _, rfl, h1, rfl, _, rfl, a, ea, kk, rv, ps, hs, ns, t, u, rfl, hM, g, st.top, hu, fun z H1 s1 iz => ?_⟩
    refine ⟨_, rfl, a, _, _, rfl, s1 _ _ h1, rfl, _, rfl, a, ea, kk, rv, ps, hs, ns, t, u, rfl, hM.same s1, _, rfl, _, _, rfl, rfl, rv, z, u, _, ps, hs, cntL ns u (spanP ps).toNat, rfl, h5.same s1, g, iz.od, fun H2 s2 => ?_⟩
    have hp : ∀ p ∈ ps, 1 ≤ p.2 ∧ p.2 - 1 ≤ ((spanP ps).toNat : Nat) := fun p hp => by
      have a1 := g.p p hp
      have a2 := span_wide g.lim hp
      omega
    have e : hasB (roomC ps hs u (cntL ns u (spanP ps).toNat)) ((if u = t then ((ns.count t : Nat) : Int) else 0) + n) = mayI ps hs ns u n := by
      by_cases z : u = t
      · subst z
        rw [if_pos rfl]
        exact may_now st hp n0
      · rw [if_neg z, Int.zero_add]
        have hlt : ∀ x ∈ ns, x < u := fun x hx => by have := st.top x hx; omega
        exact has_may hlt hp (fun p hp' => (st.later hu).cap hp') n0
    rw [e]
    exact k H2 (s1.trans s2)
theorem sc_askm : FnScope ["self", "moment", "many", "counts", "asked"] ["self", "moment", "many"] (defScope s_ask) := ⟨rfl, rfl, rfl, by decide +kernel, rfl, by decide +kernel, by decide +kernel⟩
theorem ok_askm (T : D K mg) : FnOk P w K mg base CX0 7 T.f_ask T.d_ask ["self", "moment", "many"] (spAskM T) := by
  refine okN T.W_ask sc_askm (fun vs H Q E h => ?_) (fun cdv A outer s H vs Q E hr h => ?_)
  · obtain ⟨a, ea, k, rv, ps, hs, ns, t, u, n, rfl, _⟩ := h
    rfl
  · obtain ⟨a, ea, kk, rv, ps, hs, ns, t, u, n, rfl, hM, nae, g, st, hu, n1, k4, hmay, k⟩ := h
    have nd := sc_askm.nd
    have mz : 5000 ≤ sizeLine := by decide
    refine ⟨_, pss_cons (ps_if (pt_not (pt_val (pe_meth (pv 0) T.cl_Monitor T.M_lets (ok_letm T) hr T.b_lets .nil pass0 (pa_cons (pv 1) (pa_cons (pv 2) pa_nil)))))
        (pss_one (ps_never))
        (pss_nil))
      (pss_cons (ps_set (i := 3) nd rfl (.inl rfl) (pe_meth (pv 0) T.cl_Monitor T.M__counts_then (ok_ctm T) (hr.mono (by decide)) T.b__counts_then .nil pass0 (pa_cons (pv 1) pa_nil)))
      (pss_cons (ps_set (i := 4) nd rfl (.inl rfl) (pe_op op_add (pe_meth (pv 0) T.cl_Monitor T.M__asked_then (ok_atm T) (hr.mono (by decide)) T.b__asked_then .nil pass0 (pa_cons (pv 1) pa_nil)) (pv 2)))
      (pss_cons (ps_expr (pe_bm PySem.F.plainAttrs_list PySem.F.slot_list_append PySem.F.type_list_append mt_append (pe_fld (pv 0) rfl) (pa_cons (pe_tup (pa_cons (pe_fld (pv 0) rfl) (pa_cons (pe_fld (pv 0) rfl) (pa_cons (pe_fld (pv 0) rfl) pa_nil)))) pa_nil)))
      (pss_cons (ps_fld (pv 0) (pv 1) rfl)
      (pss_cons (ps_fld (pv 0) (pv 3) rfl)
      (pss_one (ps_fld (pv 0) (pv 4) rfl))))))), ?_⟩
    obtain ⟨dx, cv, es, h1, h2, h3, h4, h5⟩ := id hM
    refine ⟨_, rfl, a, _, _, rfl, h1, rfl, _, rfl, _, rfl, a, ea, kk, rv, ps, hs, ns, t, u, (n : Nat), rfl, hM, g, st, hu, by omega, by omega, fun H1 s1 => ⟨_, rfl, ?_⟩⟩
    rw [hmay]
    refine iteF (next_of ?_)
    dsimp only
    refine ⟨_, rfl, a, _, _, rfl, s1 _ _ h1, rfl, _, rfl, a, ea, kk, rv, ps, hs, ns, t, u, rfl, hM.same s1, g, st.top, hu, fun z H2 s2 iz => gn ?_⟩
    have s12 := s1.trans s2
    dsimp only
    refine ⟨_, rfl, a, _, _, rfl, s12 _ _ h1, rfl, _, rfl, a, ea, kk, rv, ps, hs, ns, t, u, rfl, hM.same s12, _, rfl, _, _, rfl, rfl, gn ?_⟩
    dsimp only
    have e1 := s12 _ _ h1
    refine ⟨_, rfl, a, _, _, _, _, rfl, e1, T.cl_Monitor, T.n__earlier, rfl, .inl ⟨rfl, _, SqL.of (s12 _ _ h2)⟩, _, rfl, a, _, _, _, _, rfl, e1, T.cl_Monitor, T.n__moment, rfl, _, rfl, a, _, _, _, _, rfl, e1, T.cl_Monitor, T.n__counts, rfl, _, rfl, a, _, _, _, _, rfl, e1, T.cl_Monitor, T.n__asked, rfl, by show 3 ≤ sizeLine; omega, fun y hy => ?_⟩
    have s3 := same_upd (o := HO.tup [V.int t, cv, V.int ((ns.count t : Nat) : Int)]) hy
    have s13 := s12.trans s3
    replace iz := iz.same s3
    have e13 := s13 _ _ h1
    have e23 := s13 _ _ h2
    have o53 := h5.same s13
    generalize upd H2 y (.tup [V.int t, cv, V.int ((ns.count t : Nat) : Int)]) = H3 at *
    refine ⟨ea, es, _, rfl, rfl, e23, by omega, ?_⟩
    have f1 : upd H3 ea (.lst (es ++ [V.ref y])) a = _ := (upd_ne nae).trans e13
    have f2 : upd H3 ea (.lst (es ++ [V.ref y])) ea = some (.lst (es ++ [V.ref y])) := upd_same
    have fr : ∀ b o, H b = some o → b ≠ a → b ≠ ea → upd H3 ea (.lst (es ++ [V.ref y])) b = some o := fun b o e n1 n2 => (upd_ne n2).trans (s13 _ _ e)
    have ts3 : TupStay H3 (upd H3 ea (.lst (es ++ [V.ref y]))) := ts_put e23
    have iz4 : IsI (upd H3 ea (.lst (es ++ [V.ref y]))) z (cntL ns u (spanP ps).toNat) := by
      obtain ⟨za, rfl, ez⟩ := iz
      exact ⟨za, rfl, ts3 _ _ ez⟩
    have o54 := o53.ts ts3 (tup_rules ps hs)
    generalize upd H3 ea (.lst (es ++ [V.ref y])) = H4 at *
    refine ⟨_, rfl, _, rfl, a, _, _, _, rfl, f1, T.cl_Monitor, T.n__moment, by show 5 < 1000; decide, ?_⟩
    refine ⟨_, rfl, _, rfl, a, _, _, _, rfl, upd_same, T.cl_Monitor, T.n__counts, by show 5 < 1000; decide, ?_⟩
    refine ⟨_, rfl, _, rfl, a, _, _, _, rfl, upd_same, T.cl_Monitor, T.n__asked, by show 5 < 1000; decide, ?_⟩
    have tsA : ∀ (G : Hp) (o o' : HO), G a = some (.ins T.C_Monitor dx (monF rv t cv ((ns.count t : Nat) : Int) ea)) → TupStay G (upd (upd (upd G a o) a o') a (.ins T.C_Monitor dx (monF rv u z ((if u = t then ((ns.count t : Nat) : Int) else 0) + (n : Nat)) ea))) := fun G o o' e b xs q => by
      have : b ≠ a := fun w => by rw [w, e] at q; cases q
      rw [upd_ne this, upd_ne this, upd_ne this]
      exact q
    refine k _ (fun b o e n1 n2 => ?_) ?_
    · rw [upd_ne n1, upd_ne n1, upd_ne n1]
      exact fr b o e n1 n2
    · have ec : ((if u = t then ((ns.count t : Nat) : Int) else 0) + (n : Nat)) = (((ns ++ List.replicate n u).count u : Nat) : Int) := by
        rw [← cnt_ask st.top hu n]
        split <;> omega
      refine ⟨dx, z, es ++ [V.ref y], ?_, ?_, by rw [List.length_append]; show _ + 1 ≤ _; omega, ?_, ?_⟩
      · rw [← ec]
        exact upd_same
      · rw [upd_ne (Ne.symm nae), upd_ne (Ne.symm nae), upd_ne (Ne.symm nae)]
        exact f2
      · obtain ⟨za, rfl, ez⟩ := iz4
        rw [cntL_ask]
        exact ⟨za, rfl, tsA H4 _ _ f1 _ _ ez⟩
      · exact o54.ts (tsA H4 _ _ f1) (tup_rules ps hs)
end
end KP

set_option Elab.async false
set_option maxRecDepth 100000
set_option maxHeartbeats 4000000
set_option linter.all false
/-! Ours: Monitor: made, its counts told, soonest. -/
namespace KP
open PySem PySem.Spec PyProof.Rows L2 Gr GxR
theorem cntL_nil (t : Int) (L : Nat) : cntL [] t L = List.replicate L 0 := by
  refine List.ext_getElem (by rw [cntL_len, List.length_replicate]) fun j h1 h2 => ?_
  rw [List.getElem_replicate]
  simp [cntL]
/-- the asks of the last moments -/
def recI (ns : List Int) (lo hi : Int) : List Int := ns.filter fun x => decide (lo ≤ x) && decide (x < hi)
theorem rec_next : ∀ {ns : List Int} {lo c : Int}, ns.Pairwise (· ≤ ·) → lo ≤ c → recI ns lo (c + 1) = recI ns lo c ++ List.replicate (ns.count c) c
  | [], _, _, _, _ => rfl
  | a :: l, lo, c, h, hc => by
    cases h with
    | cons h1 h2 =>
      have ih := rec_next (lo := lo) (c := c) h2 hc
      unfold recI at ih ⊢
      by_cases z : a < c
      · have e1 : (decide (lo ≤ a) && decide (a < c + 1)) = (decide (lo ≤ a) && decide (a < c)) := by
          rw [decide_eq_true (show a < c + 1 by omega), decide_eq_true z]
        rw [List.filter_cons, List.filter_cons, e1, ih, List.count_cons_of_ne (by omega)]
        split <;> rfl
      · have emp : l.filter (fun x => decide (lo ≤ x) && decide (x < c)) = [] := List.filter_eq_nil_iff.mpr fun x hx hd => by
          have := h1 x hx
          simp only [Bool.and_eq_true, decide_eq_true_eq] at hd
          omega
        rw [emp, List.nil_append] at ih
        rw [List.filter_cons_of_neg (p := fun x => decide (lo ≤ x) && decide (x < c)) (by simp only [Bool.and_eq_true, decide_eq_true_eq]; omega), emp, List.nil_append]
        by_cases y : a = c
        · subst y
          rw [List.filter_cons_of_pos (by simp only [Bool.and_eq_true, decide_eq_true_eq]; omega), ih, List.count_cons_self, List.replicate_succ]
        · rw [List.filter_cons_of_neg (by simp only [Bool.and_eq_true, decide_eq_true_eq]; omega), ih, List.count_cons_of_ne (by omega)]
theorem rec_none {ns : List Int} {lo : Int} : recI ns lo lo = [] := List.filter_eq_nil_iff.mpr fun x _ hd => by
  simp only [Bool.and_eq_true, decide_eq_true_eq] at hd
  omega
theorem old_rec : ∀ {ns : List Int} {lo hi : Int}, ns.Pairwise (· ≤ ·) → (∀ x ∈ ns, x < hi) → ns = (ns.filter fun x => decide (x < lo)) ++ recI ns lo hi
  | [], _, _, _, _ => rfl
  | a :: l, lo, hi, h, hh => by
    cases h with
    | cons h1 h2 =>
      have ih := old_rec (lo := lo) (hi := hi) h2 fun x hx => hh x (List.mem_cons_of_mem _ hx)
      have ha := hh a List.mem_cons_self
      unfold recI at ih ⊢
      by_cases z : a < lo
      · rw [List.filter_cons_of_pos (by exact decide_eq_true z), List.filter_cons_of_neg (by simp only [Bool.and_eq_true, decide_eq_true_eq]; omega), List.cons_append, ← ih]
      · have emp : l.filter (fun x => decide (x < lo)) = [] := List.filter_eq_nil_iff.mpr fun x hx hd => by
          have := h1 x hx
          have := of_decide_eq_true hd
          omega
        rw [emp, List.nil_append] at ih
        rw [List.filter_cons_of_neg (by simpa using z), emp, List.nil_append, List.filter_cons_of_pos (by simp only [Bool.and_eq_true, decide_eq_true_eq]; omega), ← ih]
theorem atI_last {l : List Int} {x : Int} : atI l (-1) = some x → x ∈ l := fun h => by
  obtain ⟨j, _, e⟩ := Option.bind_eq_some_iff.mp h
  exact List.mem_of_getElem? e
/-- asks long ago lead to no other next ask -/
theorem nxt_old {ps : List (Int × Int)} {hs old rs : List Int} {st x lo : Int} (hp : ∀ p ∈ ps, 1 ≤ p.1 ∧ st - p.2 ≥ lo - 1) (ho : ∀ y ∈ old, y < lo) (hst : lo ≤ st) (sr : Srt (old ++ rs)) (h2 : Srt rs) (n : IsNxt ps hs rs st x) : IsNxt ps hs (old ++ rs) st x := by
  have past : ∀ u, Past rs st u → Past (old ++ rs) st u := fun u hu => ⟨hu.1, fun y hy => by
    cases hrs : rs with
    | nil =>
      rw [hrs, List.append_nil] at hy
      have := ho y (atI_last hy)
      have := hu.1
      omega
    | cons b l =>
      have e : atI (old ++ rs) (-1) = atI rs (-1) := by
        have hl : 0 < rs.length := by rw [hrs]; exact Nat.succ_pos _
        unfold atI ixN
        rw [if_neg (show ¬ (0 : Int) ≤ -1 by decide), if_neg (show ¬ (0 : Int) ≤ -1 by decide), if_pos (by rw [List.length_append]; omega), if_pos (by omega)]
        show (old ++ rs)[(-1 + (((old ++ rs).length : Nat) : Int)).toNat]? = rs[(-1 + ((rs.length : Nat) : Int)).toNat]?
        rw [List.length_append, List.getElem?_append_right (by omega)]
        congr 1
        omega
      rw [e] at hy
      exact hu.2 y hy⟩
  have past2 : ∀ u, Past (old ++ rs) st u → Past rs st u := fun u hu => ⟨hu.1, fun y hy => by
    have hl : 0 < rs.length := by
      cases hrs : rs with
      | nil => rw [hrs] at hy; cases (atI_last hy)
      | cons b l => exact Nat.succ_pos _
    refine hu.2 y ?_
    rw [← hy]
    unfold atI ixN
    rw [if_neg (show ¬ (0 : Int) ≤ -1 by decide), if_neg (show ¬ (0 : Int) ≤ -1 by decide), if_pos (by rw [List.length_append]; omega), if_pos (by omega)]
    show (old ++ rs)[(-1 + (((old ++ rs).length : Nat) : Int)).toNat]? = rs[(-1 + ((rs.length : Nat) : Int)).toNat]?
    rw [List.length_append, List.getElem?_append_right (by omega)]
    congr 1
    omega⟩
  have alls : ∀ u, st ≤ u → ps.all (apI (old ++ rs) u) = ps.all (apI rs u) := fun u hu => by
    rw [Bool.eq_iff_iff, List.all_eq_true, List.all_eq_true]
    have key : ∀ p ∈ ps, apI (old ++ rs) u p = apI rs u p := fun p hp' => by
      rw [ap_count sr (hp p hp').1, ap_count h2 (hp p hp').1]
      have e : above (u - p.2) (old ++ rs) = above (u - p.2) rs := by
        unfold above
        rw [List.countP_append, List.countP_eq_zero.mpr fun y hy hd => by
          have := ho y hy
          have := (hp p hp').2
          have := of_decide_eq_true hd
          omega, Nat.zero_add]
      rw [e]
    exact ⟨fun h p hp' => by rw [← key p hp']; exact h p hp', fun h p hp' => by rw [key p hp']; exact h p hp'⟩
  exact ⟨past _ n.past, n.opn, by rw [alls _ n.past.1]; exact n.all, fun u hu h1 h3 => n.least u (past2 u hu) h1 (by rw [← alls u hu.1]; exact h3)⟩
theorem srt_app {ns ms : List Int} (h : Srt ns) (h2 : Srt ms) (h3 : ∀ x ∈ ns, ∀ y ∈ ms, x ≤ y) : Srt (ns ++ ms) := fun i j hi hj hij => by
  rw [List.length_append] at hi hj
  by_cases z1 : i < ns.length
  · rw [List.getElem_append_left z1]
    by_cases z2 : j < ns.length
    · rw [List.getElem_append_left z2]
      exact h i j z1 z2 hij
    · rw [List.getElem_append_right (by omega)]
      exact h3 _ (List.getElem_mem _) _ (List.getElem_mem _)
  · rw [List.getElem_append_right (by omega), List.getElem_append_right (by omega)]
    exact h2 _ _ (by omega) (by omega) (by omega)
theorem row_srt {ps : List (Int × Int)} {hs ns ts : List Int} {st : Int} (sn : Srt ns) (sr : SRow ps hs ns st ts) : ∀ i, i ≤ ts.length → Srt (ns ++ ts.take i)
  | 0, _ => by rw [List.take_zero, List.append_nil]; exact sn
  | i + 1, hi => by
    have a := row_srt sn sr i (by omega)
    have n := sr i (by omega)
    have e : ts.take (i + 1) = ts.take i ++ [ts[i]] := by rw [List.take_add_one, List.getElem?_eq_getElem (by omega)]; rfl
    rw [e, ← List.append_assoc]
    exact snoc_srt a n.past
theorem rep_flat (x : V) : ∀ m : Nat, (List.replicate m [x]).flatten = List.replicate m x
  | 0 => rfl
  | m + 1 => by rw [List.replicate_succ, List.flatten_cons, rep_flat x m, List.replicate_succ]; rfl
theorem srt_pw : ∀ {l : List Int}, l.Pairwise (· ≤ ·) → Srt l := fun {l} h i j hi hj hij => by
  by_cases z : i = j
  · subst z; exact Int.le_refl _
  · exact List.pairwise_iff_getElem.mp h i j hi hj (by omega)
theorem pw_srt {l : List Int} (h : Srt l) : l.Pairwise (· ≤ ·) := List.pairwise_iff_getElem.mpr fun i j hi hj hij => h i j hi hj (Nat.le_of_lt hij)
/-- the next asks behind the last ones are those behind all -/
theorem row_old {ps : List (Int × Int)} {hs ns ts : List Int} {t lo : Int} (sn : Srt ns) (top : ∀ x ∈ ns, x ≤ t) (hlo : lo ≤ t) (hp : ∀ p ∈ ps, 1 ≤ p.1 ∧ t - p.2 ≥ lo - 1) (sr : SRow ps hs (recI ns lo (t + 1)) t ts) : SRow ps hs ns t ts := fun i hi => by
  have e := old_rec (lo := lo) (hi := t + 1) (pw_srt sn) fun x hx => by have := top x hx; omega
  have srec : Srt (recI ns lo (t + 1)) := srt_pw ((pw_srt sn).filter _)
  have s2 := row_srt srec sr i (by omega)
  have hold : ∀ y ∈ ns.filter (fun x => decide (x < lo)), y < lo := fun y hy => of_decide_eq_true (List.mem_filter.mp hy).2
  have s1 : Srt (ns.filter (fun x => decide (x < lo)) ++ (recI ns lo (t + 1) ++ ts.take i)) := srt_app (srt_pw ((pw_srt sn).filter _)) s2 fun x hx y hy => by
    have h1 := hold x hx
    rcases List.mem_append.mp hy with z | z
    · have := (List.mem_filter.mp z).2
      simp only [Bool.and_eq_true, decide_eq_true_eq] at this
      omega
    · obtain ⟨j, hj, rfl⟩ := List.getElem_of_mem z
      rw [List.length_take] at hj
      rw [List.getElem_take]
      have := (sr j (by omega)).past.1
      omega
  have q := nxt_old hp hold hlo s1 s2 (sr i hi)
  rw [← List.append_assoc, ← e] at q
  exact q
def spInitM {K : PySem.W.Frag} {mg : Str → Option Value} (T : D K mg) : Sp := fun vs H Q _ => ∃ (a dx : Addr) (rv : V) (ps : List (Int × Int)) (hs : List Int) (t : Int), vs = [.ref a, rv, .int t] ∧ H a = some (.ins T.C_Monitor dx []) ∧ Od H rv (rulesP ps hs) ∧ Good ps hs ∧ 0 ≤ t ∧ Tb (tabs T) H ∧
  ∀ ea H1 H', UpL (tabs T) H H1 → H1 ea = none → (∀ b o, H1 b = some o → b ≠ a → H' b = some o) → MonAt T H' a ea 0 rv ps hs [] t → Q .non H'
def spCntM {K : PySem.W.Frag} {mg : Str → Option Value} (T : D K mg) : Sp := fun vs H Q _ => ∃ (a ea : Addr) (k : Nat) (rv : V) (ps : List (Int × Int)) (hs ns : List Int) (t : Int), vs = [.ref a] ∧ MonAt T H a ea k rv ps hs ns t ∧ ∀ z, IsI H z (cntL ns t (spanP ps).toNat) → Q z H
def spSoonM {K : PySem.W.Frag} {mg : Str → Option Value} (T : D K mg) : Sp := fun vs H Q _ => ∃ (a ea : Addr) (k : Nat) (rv : V) (ps : List (Int × Int)) (hs ns : List Int) (t n : Int), vs = [.ref a, .int n] ∧ MonAt T H a ea k rv ps hs ns t ∧ Good ps hs ∧ Stn ps hs ns t ∧ ns.length ≤ 300 ∧ 0 ≤ n ∧ n ≤ 100 ∧ ∀ z ts H', Same H H' → IsI H' z ts → ts.length = n.toNat → SRow ps hs ns t ts → Q z H'
section
variable {P : Program} {w : World} {K : PySem.W.Frag} {mg : Str → Option Value} {base : Heap}
theorem sc_initm : FnScope ["self", "rules", "moment"] ["self", "rules", "moment"] (defScope s_init) := ⟨rfl, rfl, rfl, by decide +kernel, rfl, by decide +kernel, by decide +kernel⟩
theorem ok_initm (T : D K mg) (TB : Tabs base T) : FnOk P w K mg base CX0 8 T.f_init T.d_init ["self", "rules", "moment"] (spInitM T) := by
  refine okN T.W_init sc_initm (fun vs H Q E h => ?_) (fun cdv A outer s H vs Q E hr h => ?_)
  · obtain ⟨a, dx, rv, ps, hs, t, rfl, _⟩ := h
    rfl
  · obtain ⟨a, dx, rv, ps, hs, t, rfl, h1, hR, g, t0, hT, k⟩ := h
    have mz : 5000 ≤ sizeLine := by decide
    refine ⟨_, pss_cons (ps_expr (pe_call (ok_ckr T TB) hr rfl T.g_check_rules T.U_check_rules.kp T.b_check_rules .nil pass0 (pa_cons (pv 1) pa_nil)))
      (pss_cons (ps_expr (pe_call (ok_from T) (hr.mono (by decide)) rfl T.g_check_from T.U_check_from.kp T.b_check_from .nil pass0 (pa_cons (pv 2) (pa_cons pe_int pa_nil))))
      (pss_cons (ps_fld (pv 0) (pv 1) rfl)
      (pss_cons (ps_fld (pv 0) (pv 2) rfl)
      (pss_cons (ps_fld (pv 0) (pe_op op_repA (pe_tup (pa_cons pe_int pa_nil)) (pe_call (ok_span T) (hr.mono (by decide)) rfl T.g_span_of T.U_span_of.kp T.b_span_of .nil pass0 (pa_cons (pe_ix ix_tup (pv 1) pe_int (fun _ _ => rfl)) pa_nil))) rfl)
      (pss_cons (ps_fld (pv 0) pe_int rfl)
      (pss_one (ps_fld (pv 0) (pe_lst pa_nil) rfl))))))), ?_⟩
    refine ⟨_, rfl, rv, _, rfl, hR, g.rules, hT, fun H1 u1 => ?_⟩
    have st1 := u1.stay hT
    have e1 := st1 _ _ h1 fun _ q => nomatch q
    have hR1 := hR.stay st1
    refine ⟨_, rfl, t, 0, rfl, t0, ?_⟩
    have sb := span_bound g.lim
    refine ⟨_, rfl, _, rfl, a, _, _, _, rfl, e1, T.cl_Monitor, T.n__rules, by show 0 < 1000; decide, ?_⟩
    refine ⟨_, rfl, _, rfl, a, _, _, _, rfl, upd_same, T.cl_Monitor, T.n__moment, by show 1 < 1000; decide, ?_⟩
    -- heaps that differ from H1 at a alone
    have ts : ∀ (G : Hp) (o : HO), (∃ fs, G a = some (.ins T.C_Monitor dx fs)) → TupStay G (upd G a o) := fun G o ⟨fs, e⟩ b xs q => by
      have : b ≠ a := fun w => by rw [w, e] at q; cases q
      exact (upd_ne this).trans q
    have fr2 : ∀ b o, H1 b = some o → b ≠ a → upd (upd H1 a (.ins T.C_Monitor dx (putF "_rules" rv []))) a (.ins T.C_Monitor dx (putF "_moment" (.int t) (putF "_rules" rv []))) b = some o := fun b o e n => by rw [upd_ne n, upd_ne n]; exact e
    have hR2 : Od (upd (upd H1 a (.ins T.C_Monitor dx (putF "_rules" rv []))) a (.ins T.C_Monitor dx (putF "_moment" (.int t) (putF "_rules" rv [])))) rv (rulesP ps hs) := (hR1.ts (ts _ _ ⟨_, e1⟩) (tup_rules ps hs)).ts (ts _ _ ⟨_, upd_same⟩) (tup_rules ps hs)
    have ea2 : upd (upd H1 a (.ins T.C_Monitor dx (putF "_rules" rv []))) a (.ins T.C_Monitor dx (putF "_moment" (.int t) (putF "_rules" rv []))) a = some (.ins T.C_Monitor dx [("_rules", rv), ("_moment", .int t)]) := upd_same
    generalize upd (upd H1 a (.ins T.C_Monitor dx (putF "_rules" rv []))) a (.ins T.C_Monitor dx (putF "_moment" (.int t) (putF "_rules" rv []))) = H2 at *
    refine ⟨by show 1 ≤ sizeLine; omega, fun c hc => ?_⟩
    have sc := same_upd (o := HO.tup [V.int 0]) hc
    have ec : upd H2 c (.tup [V.int 0]) c = some (.tup [V.int 0]) := upd_same
    have hR3 := hR2.same sc
    have ea3 := sc _ _ ea2
    have fr3 : ∀ b o, H1 b = some o → b ≠ a → upd H2 c (.tup [V.int 0]) b = some o := fun b o e n => sc _ _ (fr2 b o e n)
    generalize upd H2 c (.tup [V.int 0]) = H3 at *
    obtain ⟨ra, rl, rfl, er, orl⟩ := od_tup hR3
    match rl, orl with
    | [lv, hv], .cons oL (.cons oH .nil) =>
    refine ⟨_, rfl, ra, _, 0, _, rfl, rfl, SqT.of er, atI_nat (j := 0) (by rfl), lv, ps, rfl, by rw [prs]; exact oL, g.lim, fun H4 s4 => ?_⟩
    obtain ⟨sn, hsn⟩ := Int.eq_ofNat_of_zero_le sb.1
    rw [hsn]
    refine rep_tt (n := sn) (by omega) (s4 _ _ ec) fun z H5 s5 ez => ?_
    have s45 := s4.trans s5
    have ea5 := s45 _ _ ea3
    refine ⟨_, rfl, a, _, _, _, rfl, ea5, T.cl_Monitor, T.n__counts, by show 2 < 1000; decide, ?_⟩
    refine ⟨_, rfl, a, _, _, _, rfl, upd_same, T.cl_Monitor, T.n__asked, by show 3 < 1000; decide, ?_⟩
    refine ⟨by show 0 ≤ sizeLine; omega, fun ea hea => ?_⟩
    have nea : a ≠ ea := fun z => by rw [← z, upd_same] at hea; cases hea
    have hea5 : H5 ea = none := by rw [upd_ne (Ne.symm nea), upd_ne (Ne.symm nea)] at hea; exact hea
    have h1ea : H1 ea = none := by
      cases h : H1 ea with
      | none => rfl
      | some o => rw [s45 _ _ (fr3 _ _ h (Ne.symm nea))] at hea5; cases hea5
    refine ⟨_, rfl, a, _, _, _, rfl, (upd_ne nea).trans upd_same, T.cl_Monitor, T.n__earlier, by show 4 < 1000; decide, ?_⟩
    have nza : z ≠ a := fun w => by rw [w, ea5] at ez; cases ez
    have nze : z ≠ ea := fun w => by rw [w, hea5] at ez; cases ez
    refine k ea H1 _ u1 h1ea (fun b o e n => ?_) ⟨dx, .ref z, [], upd_same, ?_, Nat.le_refl _, ⟨z, rfl, ?_⟩, ?_⟩
    · have nb : b ≠ ea := ne_of_none e h1ea
      rw [upd_ne n, upd_ne nb, upd_ne n, upd_ne n]
      exact s45 _ _ (fr3 b o e n)
    · rw [upd_ne (Ne.symm nea), upd_same]
    · rw [upd_ne nza, upd_ne nze, upd_ne nza, upd_ne nza, ez, cntL_nil, hsn, Int.toNat_natCast, List.map_replicate]
    · refine hR1.ts (fun b xs e => ?_) (tup_rules ps hs)
      have n : b ≠ a := fun w => by rw [w, e1] at e; cases e
      have nb : b ≠ ea := ne_of_none e h1ea
      rw [upd_ne n, upd_ne nb, upd_ne n, upd_ne n]
      exact s45 _ _ (fr3 b _ e n)
theorem sc_cntm : FnScope ["self"] ["self"] (defScope s_counts) := ⟨rfl, rfl, rfl, by decide +kernel, rfl, by decide +kernel, by decide +kernel⟩
theorem ok_cntm (T : D K mg) : FnOk P w K mg base CX0 1 T.f_counts T.d_counts ["self"] (spCntM T) := by
  refine T.U_counts.ok sc_cntm (fun vs H Q E h => ?_) (fun cdv A outer s H vs Q E hr h => ?_)
  · obtain ⟨a, ea, k, rv, ps, hs, ns, t, rfl, _⟩ := h
    rfl
  · obtain ⟨a, ea, kk, rv, ps, hs, ns, t, rfl, ⟨dx, cv, es, h1, h2, h3, h4, h5⟩, k⟩ := h
    refine ⟨_, pss_one (ps_ret (pe_fld (pv 0) rfl)), ?_⟩
    exact ⟨_, rfl, a, _, _, _, _, rfl, h1, T.cl_Monitor, T.n__counts, rfl, k cv h4⟩
theorem sc_soonm : FnScope ["self", "many", "asks", "back"] ["self", "many"] (defScope s_soonest) := ⟨rfl, rfl, rfl, by decide +kernel, rfl, by decide +kernel, by decide +kernel⟩
theorem ok_soonm (T : D K mg) : FnOk P w K mg base CX0 5 T.f_soonest T.d_soonest ["self", "many"] (spSoonM T) := by
  refine okN T.W_soonest sc_soonm (fun vs H Q E h => ?_) (fun cdv A outer s H vs Q E hr h => ?_)
  · obtain ⟨a, ea, k, rv, ps, hs, ns, t, n, rfl, _⟩ := h
    rfl
  · obtain ⟨a, ea, kk, rv, ps, hs, ns, t, n, rfl, hM, g, st, hl, n0, n1, k⟩ := h
    have nd := sc_soonm.nd
    have mz : 5000 ≤ sizeLine := by decide
    refine ⟨_, pss_cons (ps_expr (pe_call (ok_amt T) hr rfl T.g_check_amount T.U_check_amount.kp T.b_check_amount .nil pass0 (pa_cons (pv 1) pa_nil)))
      (pss_cons (ps_set (i := 2) nd rfl (.inl rfl) (pe_lst pa_nil))
      (pss_cons (ps_for PassesOwn.never rfl (pi_range3 rfl T.range (pa_cons (pe_callB call_len_seq (by rfl) T.len PySem.boot_len (pa_cons (pe_fld (pv 0) rfl) pa_nil)) (pa_cons pe_int (pa_cons (pe_un un_neg pe_int) pa_nil)))) (pg_name (i := 3) nd rfl (.inl rfl))
        (pss_one (ps_expr (pe_bm PySem.F.plainAttrs_list PySem.F.slot_list_extend PySem.F.type_list_extend mt_extend (pv 2) (pa_cons (pe_op op_rep (pe_lst (pa_cons (pe_op op_sub (pe_fld (pv 0) rfl) (pv 3)) pa_nil)) (pe_ix ix_tup (pe_fld (pv 0) rfl) (pe_op op_sub (pv 3) pe_int) (fun _ _ => rfl))) pa_nil)))))
      (pss_cons (ps_expr (pe_bm PySem.F.plainAttrs_list PySem.F.slot_list_extend PySem.F.type_list_extend mt_extend (pv 2) (pa_cons (pe_op op_rep (pe_lst (pa_cons (pe_fld (pv 0) rfl) pa_nil)) (pe_fld (pv 0) rfl)) pa_nil)))
      (pss_one (ps_ret (pe_callTy call_tuple_of (by rfl) T.tuple (by decide +kernel) (pa_cons (pe_call (ok_soona T) hr rfl T.g_soonest_asks T.U_soonest_asks.kp T.b_soonest_asks .nil pass0 (pa_cons (pe_fld (pv 0) rfl) (pa_cons (pv 2) (pa_cons (pv 1) (pa_cons (pe_fld (pv 0) rfl) pa_nil))))) pa_nil))))))), ?_⟩
    obtain ⟨dx, cv, es, h1, h2, h3, ⟨ca, rfl, ec⟩, h5⟩ := id hM
    refine ⟨_, rfl, n, rfl, n0, n1, ?_⟩
    refine ⟨by show 0 ≤ sizeLine; omega, fun Dn hDn => gn ?_⟩
    dsimp only
    have s0 := same_upd (o := HO.lst []) hDn
    have e10 := s0 _ _ h1
    have ec0 := s0 _ _ ec
    have sb := span_bound g.lim
    obtain ⟨L, hL⟩ : ∃ L : Nat, (spanP ps).toNat = L := ⟨_, rfl⟩
    rw [hL] at ec ec0
    have pw := pw_srt (asc_srt st.asc)
    have hcl : ∀ c : Int, ns.count c ≤ 300 := fun c => Nat.le_trans List.count_le_length hl
    have hrl : ∀ lo hi : Int, (recI ns lo hi).length ≤ 300 := fun lo hi => Nat.le_trans (List.length_filter_le _ _) hl
    refine ⟨_, rfl, a, _, _, _, _, rfl, e10, T.cl_Monitor, T.n__counts, rfl, ca, _, rfl, .inr (SqT.of ec0), 1, rfl, _, 0, -1, L, rfl, ?_, ?_⟩
    · have r := RgC.neg (i := ((((cntL ns t L).map V.int).length : Nat) : Int)) (j := 0) (by omega) (by rw [List.length_map, cntL_len]; omega) (by decide) (by decide)
      rw [show (((((cntL ns t L).map V.int).length : Nat) : Int) - 0).toNat = L by rw [List.length_map, cntL_len]; omega] at r
      exact r
    refine for_it (walk_rangeC (n := L)) (fun i σ Hx => (∀ b o, H b = some o → Hx b = some o) ∧ Hx Dn = some (.lst ((recI ns (t - L) (t - L + i)).map V.int)) ∧ ∃ v3 : Option V, σ = [some (.ref a), some (.int n), some (.ref Dn), v3]) ⟨s0, by rw [show t - (L : Int) + ((0 : Nat) : Int) = t - L by omega, rec_none]; exact upd_same, none, rfl⟩ (fun _ _ _ _ _ => trivial) ?_ ?_
    · rintro i x σ Hx Hx' hi ⟨hold, eD, v3, rfl⟩ ⟨rfl, rfl⟩
      refine gn ?_
      rw [List.length_map, cntL_len]
      dsimp only
      have e1x := hold _ _ h1
      refine ⟨_, rfl, .inl ⟨rfl, _, SqL.of eD⟩, _, rfl, a, _, _, _, _, rfl, e1x, T.cl_Monitor, T.n__moment, rfl, _, rfl, _, _, rfl, rfl, by show 1 ≤ sizeLine; omega, fun q hq => ?_⟩
      dsimp only
      rw [show t - ((L : Int) + (i : Int) * -1) = t - L + i by omega]
      have sq := same_upd (o := HO.lst [V.int (t - L + i)]) hq
      refine ⟨_, rfl, a, _, _, _, _, rfl, sq _ _ e1x, T.cl_Monitor, T.n__counts, rfl, _, rfl, _, _, rfl, rfl, ?_⟩
      have hj : L - 1 - i < (cntL ns t L).length := by rw [cntL_len]; omega
      have ex : atI ((cntL ns t L).map V.int) ((L : Int) + (i : Int) * -1 - 1) = some (V.int (cntL ns t L)[L - 1 - i]) := by
        rw [show (L : Int) + (i : Int) * -1 - 1 = ((L - 1 - i : Nat) : Int) by omega]
        refine atI_nat ?_
        rw [List.getElem?_map, List.getElem?_eq_getElem hj]
        rfl
      have ev : (cntL ns t L)[L - 1 - i] = ((ns.count (t - L + i) : Nat) : Int) := by
        simp only [cntL, List.getElem_map, List.getElem_range]
        rw [show t - 1 - ((L - 1 - i : Nat) : Int) = t - (L : Int) + (i : Int) by omega]
      rw [ev] at ex
      refine ⟨ca, _, _, _, rfl, rfl, SqT.of (sq _ _ (hold _ _ ec)), ex, ?_⟩
      have hc := hcl (t - L + i)
      refine ⟨q, _, _, rfl, rfl, upd_same, by omega, by omega, by rw [Int.toNat_natCast]; show 1 * _ ≤ _; omega, fun p hp => ?_⟩
      rw [Int.toNat_natCast, rep_flat]
      have sp := same_upd (o := HO.lst (List.replicate (ns.count (t - L + i)) (V.int (t - L + i)))) hp
      have sqp := sq.trans sp
      have hr1 := hrl (t - L) (t - L + i)
      refine ⟨Dn, p, _, _, rfl, rfl, sqp _ _ eD, upd_same, by rw [List.length_map, List.length_replicate]; omega, ?_⟩
      · refine ⟨fun b o e => (upd_ne (ne_of_none e hDn)).trans (sqp _ _ (hold b o e)), ?_, _, rfl⟩
        rw [upd_same, show t - (L : Int) + ((i + 1 : Nat) : Int) = t - L + i + 1 by omega, rec_next pw (by omega), List.map_append, List.map_replicate]
    · rintro σ Hx ⟨hold, eD, v3, rfl⟩
      rw [show t - (L : Int) + (L : Int) = t by omega] at eD
      have e1x := hold _ _ h1
      refine ⟨_, rfl, .inl ⟨rfl, _, SqL.of eD⟩, _, rfl, a, _, _, _, _, rfl, e1x, T.cl_Monitor, T.n__moment, rfl, by show 1 ≤ sizeLine; omega, fun q hq => ?_⟩
      have sq := same_upd (o := HO.lst [V.int t]) hq
      have hc := hcl t
      refine ⟨_, rfl, a, _, _, _, _, rfl, sq _ _ e1x, T.cl_Monitor, T.n__asked, rfl, q, _, _, rfl, rfl, upd_same, by omega, by omega, by rw [Int.toNat_natCast]; show 1 * _ ≤ _; omega, fun p hp => ?_⟩
      rw [Int.toNat_natCast, rep_flat]
      have sp := same_upd (o := HO.lst (List.replicate (ns.count t) (V.int t))) hp
      have sqp := sq.trans sp
      have hr1 := hrl (t - L) t
      refine ⟨Dn, p, _, _, rfl, rfl, sqp _ _ eD, upd_same, by rw [List.length_map, List.length_replicate]; omega, ?_⟩
      have eE : upd (upd (upd Hx q (.lst [V.int t])) p (.lst (List.replicate (ns.count t) (V.int t)))) Dn (.lst ((recI ns (t - L) t).map V.int ++ List.replicate (ns.count t) (V.int t))) Dn = some (.lst ((recI ns (t - L) (t + 1)).map V.int)) := by
        rw [upd_same, rec_next pw (by omega), List.map_append, List.map_replicate]
      have holdE : ∀ b o, H b = some o → upd (upd (upd Hx q (.lst [V.int t])) p (.lst (List.replicate (ns.count t) (V.int t)))) Dn (.lst ((recI ns (t - L) t).map V.int ++ List.replicate (ns.count t) (V.int t))) b = some o := fun b o e => (upd_ne (ne_of_none e hDn)).trans (sqp _ _ (hold b o e))
      generalize upd (upd (upd Hx q (.lst [V.int t])) p (.lst (List.replicate (ns.count t) (V.int t)))) Dn (.lst ((recI ns (t - L) t).map V.int ++ List.replicate (ns.count t) (V.int t))) = H5 at *
      have e15 := holdE _ _ h1
      refine ⟨_, rfl, a, _, _, _, _, rfl, e15, T.cl_Monitor, T.n__rules, rfl, _, rfl, _, rfl, _, rfl, a, _, _, _, _, rfl, e15, T.cl_Monitor, T.n__moment, rfl, rv, Dn, n, t, ps, hs, recI ns (t - L) (t + 1), rfl, h5.same holdE, g.l, fun p hp => (g.p p hp).1, g.one, .inl (SqL.of eE), by have := hrl (t - L) (t + 1); omega, n0, by omega, fun z ts H6 s6 ez lt sr => ?_⟩
      refine ⟨z, _, rfl, .inl ⟨SqL.of ez, fun R hR => ?_⟩⟩
      have sR := same_upd (o := HO.tup (ts.map V.int)) hR
      refine k (.ref R) ts _ (fun b o e => sR _ _ (s6 _ _ (holdE b o e))) ⟨R, rfl, upd_same⟩ lt ?_
      refine row_old (asc_srt st.asc) st.top (lo := t - L) (by omega) (fun p hp => ?_) sr
      have := span_wide g.lim hp
      exact ⟨(g.p p hp).1, by omega⟩
end
end KP

set_option Elab.async false
set_option maxRecDepth 100000
set_option maxHeartbeats 4000000
set_option linter.all false
/-! Ours: asks that are frozen or not. -/
namespace KP
open PySem PySem.Spec PyProof.Rows L2 Gr GxR
def AskV (H : Hp) (v : V) (ns : List Int) : Prop := ∃ a : Addr, v = .ref a ∧ Rd H a (.tup (ns.map V.int))
theorem rd_same {H H' : Hp} {a : Addr} {x : HO} (s : Same H H') (h : Rd H a x) : Rd H' a x := h.elim (fun h => .inl (s _ _ h)) fun ⟨o, h⟩ => .inr ⟨o, s _ _ h⟩
theorem rd_stay {H H' : Hp} {a : Addr} {xs : List V} (s : Stay H H') (h : Rd H a (.tup xs)) : Rd H' a (.tup xs) := h.elim (fun h => .inl (s _ _ h fun _ z => nomatch z)) fun ⟨o, h⟩ => .inr ⟨o, s _ _ h fun _ z => nomatch z⟩
theorem AskV.same {H H' : Hp} {v : V} {ns : List Int} (h : AskV H v ns) (s : Same H H') : AskV H' v ns := let ⟨a, e, q⟩ := h; ⟨a, e, rd_same s q⟩
theorem AskV.stay {H H' : Hp} {v : V} {ns : List Int} (h : AskV H v ns) (s : Stay H H') : AskV H' v ns := let ⟨a, e, q⟩ := h; ⟨a, e, rd_stay s q⟩
theorem AskV.frz {H : Hp} {v : V} {ns : List Int} (h : FrzA H v ns) : AskV H v ns := let ⟨a, o, e, q, _⟩ := h; ⟨a, e, .inr ⟨o, q⟩⟩
theorem AskV.isI {H : Hp} {v : V} {ns : List Int} (h : IsI H v ns) : AskV H v ns := let ⟨a, e, q⟩ := h; ⟨a, e, .inl q⟩
theorem AskV.dq {K : PySem.W.Frag} {H : Hp} {v : V} {ns : List Int} (h : AskV H v ns) : Dq K H v (.tuple (ns.map PyData.int)) := by
  obtain ⟨a, rfl, q⟩ := h
  exact .tup (.inl q) (OdAll.dq (H := H) (ints_od ns))
theorem rd_ty {K : PySem.W.Frag} {H : Hp} {a : Addr} {ns : List Int} (h : Rd H a (.tup (ns.map V.int))) : TyX K H (.ref a) (.type "tuple") := h.elim (fun e => Od.ty (.tup e (ints_od ns))) fun ⟨o, e⟩ => .fTuple e
def spRowA : Sp := fun vs H Q _ => ∃ (v : V) (ns : List Int) (lo hi : Int), vs = [v, .int lo, .int hi] ∧ AskV H v ns ∧ lo ≤ (ns.length : Nat) ∧ ((ns.length : Nat) : Int) ≤ hi ∧ Q (.bl true) H
def spBackA : Sp := fun vs H Q _ => ∃ (v : V) (ns : List Int), vs = [v] ∧ AskV H v ns ∧ asc 0 ns ∧ ∀ H', Same H H' → Q .non H'
def spAsksA : Sp := fun vs H Q _ => ∃ (v : V) (ns : List Int), vs = [v] ∧ AskV H v ns ∧ asc 0 ns ∧ ns.length ≤ 200 ∧ ∀ H', Same H H' → Q .non H'
def spFirstA (L : List Addr) : Sp := fun vs H Q _ => ∃ (rv av : V) (ps : List (Int × Int)) (hs ns : List Int), vs = [rv, av] ∧ Od H rv (rulesP ps hs) ∧ (∀ p ∈ ps, 1 ≤ p.1) ∧ 0 < hs.length ∧ AskV H av ns ∧ Tb L H ∧ ∀ H', UpL L H H' → Q (optV (firstI ps hs ns)) H'
def spPolA (L : List Addr) : Sp := fun vs H Q _ => ∃ (rv av : V) (ps : List (Int × Int)) (hs ns : List Int), vs = [rv, av] ∧ Od H rv (rulesP ps hs) ∧ (∀ p ∈ ps, 1 ≤ p.1) ∧ 0 < hs.length ∧ AskV H av ns ∧ firstI ps hs ns = none ∧ Tb L H ∧ ∀ H', UpL L H H' → Q .non H'
def spFWA (L : List Addr) : Sp := fun vs H Q _ => ∃ (rv av : V) (ps : List (Int × Int)) (hs ns : List Int), vs = [rv, av] ∧ Od H rv (rulesP ps hs) ∧ AskV H av ns ∧ Right ps hs ns ∧ Tb L H ∧ ∀ H', UpL L H H' → Q (optV (firstI ps hs ns)) H'
def spPoliteA (L : List Addr) : Sp := fun vs H Q _ => ∃ (rv av : V) (ps : List (Int × Int)) (hs ns : List Int), vs = [rv, av] ∧ Od H rv (rulesP ps hs) ∧ AskV H av ns ∧ Right ps hs ns ∧ Tb L H ∧ ∀ H', UpL L H H' → Q (.bl (firstI ps hs ns).isNone) H'
def spMayA (L : List Addr) : Sp := fun vs H Q _ => ∃ (rv av : V) (ps : List (Int × Int)) (hs ns : List Int) (t : Int), vs = [rv, av, .int t] ∧ Od H rv (rulesP ps hs) ∧ AskV H av ns ∧ Right ps hs ns ∧ firstI ps hs ns = none ∧ 0 ≤ t ∧ (∀ x, atI ns (-1) = some x → x ≤ t) ∧ Tb L H ∧ ∀ H', UpL L H H' → Q (.bl (openI hs t && ps.all (apI ns t))) H'
def spSoonestA (L : List Addr) : Sp := fun vs H Q _ => ∃ (rv av : V) (n st : Int) (ps : List (Int × Int)) (hs ns : List Int), vs = [rv, av, .int n, .int st] ∧ Od H rv (rulesP ps hs) ∧ AskV H av ns ∧ Good ps hs ∧ asc 0 ns ∧ ns.length ≤ 200 ∧ firstI ps hs ns = none ∧ 0 ≤ n ∧ n ≤ 100 ∧ 0 ≤ st ∧ Tb L H ∧ ∀ z ts H', UpL L H H' → IsI H' z ts → ts.length = n.toNat → SRow ps hs ns st ts → Q z H'
def spApartA (L : List Addr) : Sp := fun vs H Q _ => ∃ (lv av : V) (t : Int) (ps : List (Int × Int)) (ns : List Int), vs = [lv, av, .int t] ∧ Od H lv (.tuple ((ps.map inD).map tw)) ∧ (∀ p ∈ ps, 1 ≤ p.1) ∧ AskV H av ns ∧ Tb L H ∧ ∀ H', UpL L H H' → Q (.bl (ps.all (apI ns t))) H'
section
variable {P : Program} {w : World} {K : PySem.W.Frag} {mg : Str → Option Value} {base : Heap}
theorem ok_rowA (T : D K mg) : FnOk P w K mg base CX0 1 T.f_is_tuple T.d_is_tuple ["value", "low", "high"] spRowA := by
  refine T.U_is_tuple.ok sc_row (fun vs H Q E h => ?_) (fun cdv A outer s H vs Q E hr h => ?_)
  · obtain ⟨v, ns, lo, hi, rfl, _⟩ := h
    rfl
  · obtain ⟨v, ns, lo, hi, rfl, ⟨a, rfl, ea⟩, h1, h2, k⟩ := h
    refine ⟨_, pss_one (ps_ret (pe_and (pe_callB call_isi (by rfl) T.isinstance (by decide +kernel) (pa_cons (pv 0) (pa_cons (pe_bltn (v := .ty "tuple") (by rfl) T.tuple (by decide +kernel) rfl) pa_nil))) (pe_one (pe_chain op_le op_le (pv 1) (pe_callB call_len_seq (by rfl) T.len PySem.boot_len (pa_cons (pv 0) pa_nil)) (pv 2))))), ?_⟩
    refine ⟨_, rfl, _, _, _, _, _, rfl, .ty _, rd_ty ea, kTup (.tuple (ns.map PyData.int)), true, rfl, iteT ?_⟩
    refine ⟨_, rfl, _, rfl, a, _, rfl, .inr (.inl ea), _, _, rfl, rfl, _, rfl, ?_⟩
    rw [List.length_map, if_pos (decide_eq_true h1)]
    refine ⟨_, rfl, _, _, rfl, rfl, ?_⟩
    dsimp only
    rw [decide_eq_true h2]
    exact k
end
end KP

set_option Elab.async false
set_option maxRecDepth 100000
set_option linter.all false
/-! Ours: where a row that asks too much goes wrong. -/
namespace KP
open PySem PySem.Spec PyProof.Rows L2 Gr GxR
theorem may_anti {ps : List (Int × Int)} {hs ns : List Int} {t a b : Int} (h : a ≤ b) (m : mayI ps hs ns t b = true) : mayI ps hs ns t a = true := by
  unfold mayI at m ⊢
  rw [Bool.or_eq_true, Bool.and_eq_true, List.all_eq_true] at m ⊢
  rcases m with m | ⟨ho, m⟩
  · have := of_decide_eq_true m
    exact .inl (decide_eq_true (by omega))
  · refine .inr ⟨ho, fun p hp => ?_⟩
    have := of_decide_eq_true (m p hp)
    exact decide_eq_true (by omega)
theorem srt_rep' {ns : List Int} {t : Int} (hs : Srt ns) (h : ∀ x ∈ ns, x < t) (j : Nat) : Srt (ns ++ List.replicate j t) := fun a b ha hb hab => by
  rw [List.length_append, List.length_replicate] at ha hb
  by_cases z1 : a < ns.length
  · rw [List.getElem_append_left z1]
    by_cases z2 : b < ns.length
    · rw [List.getElem_append_left z2]
      exact hs a b z1 z2 hab
    · rw [List.getElem_append_right (by omega), List.getElem_replicate]
      have := h _ (List.getElem_mem z1)
      omega
  · rw [List.getElem_append_right (by omega), List.getElem_append_right (by omega), List.getElem_replicate, List.getElem_replicate]
    exact Int.le_refl _
theorem above_rep (c t : Int) (ns : List Int) (j : Nat) (h : c < t) : above c (ns ++ List.replicate j t) = above c ns + j := by
  unfold above
  rw [List.countP_append, List.countP_replicate, if_pos (decide_eq_true h)]
/-- the j-th further ask is let if so many are let -/
theorem polite_rep {ps : List (Int × Int)} {hs ns : List Int} {t : Int} (hp : ∀ p ∈ ps, 1 ≤ p.1 ∧ 1 ≤ p.2) (sr : Srt ns) (h : ∀ x ∈ ns, x < t) {m j : Nat} (hj : j < m) : politeAt ps hs (ns ++ List.replicate m t) (ns.length + j) = mayI ps hs ns t ((j + 1 : Nat) : Int) := by
  unfold politeAt mayI
  have e1 : (ns ++ List.replicate m t).getD (ns.length + j) 0 = t := by
    rw [List.getD_eq_getElem?_getD, List.getElem?_append_right (by omega), show ns.length + j - ns.length = j by omega, List.getElem?_replicate, if_pos hj]
    rfl
  have e2 : (ns ++ List.replicate m t).take (ns.length + j) = ns ++ List.replicate j t := by
    rw [List.take_append, List.take_of_length_le (by omega), show ns.length + j - ns.length = j by omega, List.take_replicate, Nat.min_eq_left (by omega)]
  rw [e1, e2, decide_eq_false (by omega), Bool.false_or]
  congr 1
  rw [Bool.eq_iff_iff, List.all_eq_true, List.all_eq_true]
  have key : ∀ p ∈ ps, apI (ns ++ List.replicate j t) t p = decide (((above (t - p.2) ns : Nat) : Int) + ((j + 1 : Nat) : Int) ≤ p.1) := fun p hp' => by
    rw [ap_count (srt_rep' sr h j) (hp p hp').1, above_rep _ _ _ _ (by have := (hp p hp').2; omega), Bool.eq_iff_iff, decide_eq_true_eq, decide_eq_true_eq]
    omega
  constructor
  · intro z p hp'
    rw [← key p hp']
    exact z p hp'
  · intro z p hp'
    rw [key p hp']
    exact z p hp'
theorem polite_rep_old {ps : List (Int × Int)} {hs ns : List Int} {t : Int} {m i : Nat} (hi : i < ns.length) : politeAt ps hs (ns ++ List.replicate m t) i = politeAt ps hs ns i := by
  unfold politeAt
  rw [List.getD_eq_getElem?_getD, List.getD_eq_getElem?_getD, List.getElem?_append_left hi, List.take_append_of_le_length (by omega)]
/-- so many asks more are polite -/
theorem polite_more {ps : List (Int × Int)} {hs ns : List Int} {t : Int} {m : Nat} (hp : ∀ p ∈ ps, 1 ≤ p.1 ∧ 1 ≤ p.2) (sr : Srt ns) (h : ∀ x ∈ ns, x < t) (po : Polite ps hs ns) (hm : mayI ps hs ns t (m : Nat) = true) : Polite ps hs (ns ++ List.replicate m t) := fun i hi => by
  rw [List.length_append, List.length_replicate] at hi
  by_cases z : i < ns.length
  · rw [polite_rep_old z]
    exact po i z
  · have e : i = ns.length + (i - ns.length) := by omega
    rw [e, polite_rep hp sr h (by omega)]
    exact may_anti (by omega) hm
/-- too many: the first wrong one stands behind as many as are let -/
theorem first_more {ps : List (Int × Int)} {hs ns : List Int} {t : Int} {m g : Nat} (hp : ∀ p ∈ ps, 1 ≤ p.1 ∧ 1 ≤ p.2 ∧ p.1 ≤ 6) (sr : Srt ns) (h : ∀ x ∈ ns, x < t) (po : Polite ps hs ns) (hno : ¬ (ps = [] ∧ openI hs t = true)) (g1 : mayI ps hs ns t (g : Nat) = true) (gl : ∀ m : Nat, m ≤ 6 → mayI ps hs ns t (m : Nat) = true → m ≤ g) (g6 : g ≤ 6) (hm : mayI ps hs ns t (m : Nat) = false) : firstI ps hs (ns ++ List.replicate m t) = some (ns.length + g) := by
  have gm : g < m := by
    by_cases z : g < m
    · exact z
    · have := may_anti (a := (m : Nat)) (b := (g : Nat)) (by omega) g1
      rw [hm] at this
      cases this
  have hp2 : ∀ p ∈ ps, 1 ≤ p.1 ∧ 1 ≤ p.2 := fun p q => ⟨(hp p q).1, (hp p q).2.1⟩
  refine first_at (by rw [List.length_append, List.length_replicate]; omega) (fun i hi => ?_) ?_
  · by_cases z : i < ns.length
    · rw [polite_rep_old z]
      exact po i z
    · have e : i = ns.length + (i - ns.length) := by omega
      rw [e, polite_rep hp2 sr h (by omega)]
      exact may_anti (by omega) g1
  · rw [polite_rep hp2 sr h gm]
    cases hq : mayI ps hs ns t ((g + 1 : Nat) : Int) with
    | false => rfl
    | true =>
      exfalso
      by_cases z : g + 1 ≤ 6
      · have := gl (g + 1) z hq
        omega
      · unfold mayI at hq
        rw [decide_eq_false (by omega), Bool.false_or, Bool.and_eq_true, List.all_eq_true] at hq
        cases hps : ps with
        | nil => exact hno ⟨hps, hq.1⟩
        | cons p l =>
          have hpm : p ∈ ps := by rw [hps]; exact List.mem_cons_self
          have a := of_decide_eq_true (hq.2 p hpm)
          have b := (hp p hpm).2.2
          omega
end KP

set_option Elab.async false
set_option maxRecDepth 100000
set_option maxHeartbeats 4000000
set_option linter.all false
/-! Ours: the next ask by four roads: the mathematics. -/
namespace KP
open PySem PySem.Spec PyProof.Rows L2 Gr GxR
theorem srow_eq {ps : List (Int × Int)} {hs ns : List Int} {st : Int} : ∀ {ts us : List Int}, SRow ps hs ns st ts → SRow ps hs ns st us → ts.length = us.length → ts = us := fun {ts us} a b h => by
  refine List.ext_getElem h fun i h1 h2 => ?_
  have key : ∀ i, i ≤ ts.length → ts.take i = us.take i := fun i => by
    induction i with
    | zero => intro _; rw [List.take_zero, List.take_zero]
    | succ i ih =>
      intro hi
      have e := ih (by omega)
      have x := a i (by omega)
      have y := b i (by omega)
      rw [e] at x
      have z := x.one y
      rw [List.take_add_one, List.take_add_one, e, List.getElem?_eq_getElem (by omega), List.getElem?_eq_getElem (by omega), z]
  have e := key i (by omega)
  have x := a i h1
  have y := b i h2
  rw [e] at x
  exact x.one y
theorem may_one {ps : List (Int × Int)} {hs ns : List Int} {u : Int} (hp : ∀ p ∈ ps, 1 ≤ p.1) (sr : Srt ns) : mayI ps hs ns u 1 = (openI hs u && ps.all (apI ns u)) := by
  unfold mayI
  rw [decide_eq_false (by omega), Bool.false_or]
  congr 1
  rw [Bool.eq_iff_iff, List.all_eq_true, List.all_eq_true]
  constructor
  · intro h p hp'
    rw [ap_count sr (hp p hp')]
    have := of_decide_eq_true (h p hp')
    exact decide_eq_true (by omega)
  · intro h p hp'
    have a := h p hp'
    rw [ap_count sr (hp p hp')] at a
    have := of_decide_eq_true a
    exact decide_eq_true (by omega)
theorem nxt_may {ps : List (Int × Int)} {hs ns : List Int} {st t : Int} (hp : ∀ p ∈ ps, 1 ≤ p.1) (sr : Srt ns) (n : IsNxt ps hs ns st t) : mayI ps hs ns t 1 = true := by
  rw [may_one hp sr, n.opn, n.all]
  rfl
theorem nxt_not {ps : List (Int × Int)} {hs ns : List Int} {st t u : Int} (hp : ∀ p ∈ ps, 1 ≤ p.1) (sr : Srt ns) (top : ∀ x ∈ ns, x ≤ st) (n : IsNxt ps hs ns st t) (h1 : st ≤ u) (h2 : u < t) : mayI ps hs ns u 1 = false := by
  rw [Bool.eq_false_iff]
  intro h
  rw [may_one hp sr, Bool.and_eq_true] at h
  have := n.least u ⟨h1, fun x hx => by have := top x (atI_last hx); omega⟩ h.1 h.2
  omega
/-- as many of the next asks come at once as are let -/
theorem now_count {ps : List (Int × Int)} {hs ns ts : List Int} {t : Int} (hp : ∀ p ∈ ps, 1 ≤ p.1 ∧ 1 ≤ p.2) (sr : Srt ns) (top : ∀ x ∈ ns, x < t) (r : SRow ps hs ns t ts) {g : Nat} (g1 : mayI ps hs ns t (g : Nat) = true) (g2 : g < ts.length → mayI ps hs ns t ((g + 1 : Nat) : Int) = false) : (ts.filter fun x => decide (x = t)).length = min g ts.length := by
  have hp1 : ∀ p ∈ ps, 1 ≤ p.1 := fun p h => (hp p h).1
  have srr : ∀ j, Srt (ns ++ List.replicate j t) := fun j => srt_rep' sr top j
  have tr : ∀ j x, x ∈ ns ++ List.replicate j t → x ≤ t := fun j x hx => by
    rcases List.mem_append.mp hx with z | z
    · have := top x z; omega
    · rw [List.eq_of_mem_replicate z]; exact Int.le_refl _
  have one : ∀ j : Nat, mayI ps hs (ns ++ List.replicate j t) t 1 = mayI ps hs ns t ((j + 1 : Nat) : Int) := fun j => by
    unfold mayI
    rw [decide_eq_false (by omega), decide_eq_false (by omega), Bool.false_or, Bool.false_or]
    congr 1
    rw [Bool.eq_iff_iff, List.all_eq_true, List.all_eq_true]
    constructor
    · intro h p hp'
      have a := of_decide_eq_true (h p hp')
      rw [above_rep _ _ _ _ (by have := (hp p hp').2; omega)] at a
      exact decide_eq_true (by omega)
    · intro h p hp'
      have a := of_decide_eq_true (h p hp')
      exact decide_eq_true (by rw [above_rep _ _ _ _ (by have := (hp p hp').2; omega)]; omega)
  have key : ∀ i, i ≤ min g ts.length → ts.take i = List.replicate i t := fun i => by
    induction i with
    | zero => intro _; rw [List.take_zero]; rfl
    | succ i ih =>
      intro hi
      have hil : i < ts.length := by omega
      have e := ih (by omega)
      have n := r i hil
      rw [e] at n
      have m := may_anti (a := ((i + 1 : Nat) : Int)) (b := (g : Nat)) (by omega) g1
      rw [← one i, may_one hp1 (srr i), Bool.and_eq_true] at m
      have := n.least t ⟨Int.le_refl _, fun x hx => tr i x (atI_last hx)⟩ m.1 m.2
      have := n.past.1
      have et : ts[i] = t := by omega
      rw [List.take_add_one, e, List.getElem?_eq_getElem hil, et, List.replicate_succ']
      rfl
  have srt : ∀ i j (hi : i < ts.length) (hj : j < ts.length), i ≤ j → ts[i] ≤ ts[j] := fun i j hi hj hij => by
    have s := row_srt sr r ts.length (Nat.le_refl _)
    rw [List.take_of_length_le (Nat.le_refl _)] at s
    have := s (ns.length + i) (ns.length + j) (by rw [List.length_append]; omega) (by rw [List.length_append]; omega) (by omega)
    rw [List.getElem_append_right (by omega), List.getElem_append_right (by omega)] at this
    simpa using this
  rw [← List.take_append_drop (min g ts.length) ts, List.filter_append, key _ (Nat.le_refl _), List.length_append, List.filter_replicate, if_pos (decide_eq_true rfl), List.length_replicate]
  have emp : (ts.drop (min g ts.length)).filter (fun x => decide (x = t)) = [] := List.filter_eq_nil_iff.mpr fun x hx hd => by
    have hd := of_decide_eq_true hd
    subst hd
    obtain ⟨j, hj, rfl⟩ := List.getElem_of_mem hx
    rw [List.length_drop] at hj
    have hgl : g < ts.length := by omega
    have hm : min g ts.length = g := by omega
    have e := key g (by omega)
    have n := r g hgl
    have le1 : ts[g] ≤ (ts.drop (min g ts.length))[j] := by
      rw [List.getElem_drop]
      exact srt g _ hgl (by omega) (by omega)
    have ge := n.past.1
    have et : ts[g] = (ts.drop (min g ts.length))[j] := by omega
    rw [e] at n
    have m : mayI ps hs (ns ++ List.replicate g ((ts.drop (min g ts.length))[j])) ((ts.drop (min g ts.length))[j]) 1 = true := by
      rw [may_one hp1 (srr g), ← et]
      rw [← et] at n
      rw [n.opn, n.all]
      rfl
    rw [one g, g2 hgl] at m
    cases m
  rw [emp, List.length_nil, Nat.add_zero]
  rw [List.length_append, List.length_replicate, List.length_drop]
  omega
end KP

set_option Elab.async false
set_option maxRecDepth 100000
set_option maxHeartbeats 4000000
set_option linter.all false
/-! Ours: the law's call where tables of code objects may grow, by a promise for calls where no repr is under way. -/
namespace Gr
open PySem PySem.Spec PyProof.Rows L2 GxR
/-- what is tracked at the law's call: the tables at ts, and the script where it is not written -/
def startH (ts : List Addr) (a : Addr) (o : Option HO) : Hp := fun b => if b ∈ ts then some (.tbl #[]) else if b = a then o else none
theorem startH_tab {ts : List Addr} {a b : Addr} {o : Option HO} (h : b ∈ ts) : startH ts a o b = some (.tbl #[]) := if_pos h
theorem startH_at {ts : List Addr} {a : Addr} {o : Option HO} (h : a ∉ ts) : startH ts a o a = o := (if_neg h).trans (if_pos rfl)
theorem startH_inv {ts : List Addr} {a b : Addr} {o : Option HO} {u : HO} (h : startH ts a o b = some u) : (b ∈ ts ∧ u = .tbl #[]) ∨ (b ∉ ts ∧ b = a ∧ o = some u) := by
  unfold startH at h
  by_cases h1 : b ∈ ts
  · rw [if_pos h1] at h
    exact .inl ⟨h1, (Option.some.inj h).symm⟩
  · rw [if_neg h1] at h
    by_cases h2 : b = a
    · rw [if_pos h2] at h
      exact .inr ⟨h1, h2, h⟩
    · rw [if_neg h2] at h
      cases h
abbrev tabO (more : Array Value) : Obj := { cls := .none, data := .fields more }
theorem law_callQT {P : Program} {w : World} {K : PySem.W.Frag} {mg mb : Str → Option Value} {k : Nat} {fa a : Addr} {cs : List (Addr × Addr)} {fd : FuncData} {x : Str} {sp : Sp} {z : Shared} {vs : List Value} {ns : List Int}
    (KX : K.In z.heap) (G : z.heap.Ns mainGlobals mg) (B : z.heap.Ns builtinsNs mb) (B2 : ∀ x : Str, x ≠ "__name__" → mb x = bootBuiltins x) (L : z.heap.NoLimit) (G0 : z.gens = #[])
    (hT : ∀ p ∈ cs, z.heap.get? p.2 = some (tabO #[])) (nT : ∀ p ∈ cs, K.lookup p.2 = none) (C : ∀ p ∈ cs, PySem.W.CodeHd z.heap p.1 p.2)
    (M : ∃ (bm : Addr) (ob : Obj), mg "__builtins__" = some (.ref bm) ∧ bm ≠ builtinsNs ∧ z.heap.get? bm = some ob ∧ ob.cls = .type "module" ∧ ob.dict = some builtinsNs ∧ ob.data = .plain)
    (ha : z.heap.get? a = some { cls := .type "list", data := .seq vs.toArray }) (hi : IntsAre vs ns) (hl : ns.length ≤ sizeLine) (hr : Room k callerA)
    (F : ∀ base : Heap, K.In base → base.Ns mainGlobals mg → (∀ p ∈ cs, TabB base mg p.1 p.2) → FnQ P w K mg base CX0 k fa fd [x] sp) (hb : ∀ (s : Shared) (u : Value), BindsTo s fd ⟨[u], []⟩ [(x, u)])
    (hsp : ∀ H : Hp, (∀ p ∈ cs, H p.2 = some (.tbl #[])) → SqL K H a (ns.map V.int) → sp [.ref a] H (fun v _ => v = .bl true) fun _ _ _ => False) :
    codeAny (model P w) callerA (.call (.ref fa) ⟨[.ref a], []⟩) (fun r s' => r = .ok (.ret (.bool true)) ∧ OldK z.heap s'.heap ∧ s'.os = z.os ∧ AllBare s'.gens) z := by
  generalize hts : cs.map (·.2) = ts
  have inT : ∀ p ∈ cs, p.2 ∈ ts := fun p hp => by rw [← hts]; exact List.mem_map.mpr ⟨p, hp, rfl⟩
  have ofT : ∀ b ∈ ts, ∃ p ∈ cs, p.2 = b := fun b hb => by rw [← hts] at hb; exact List.mem_map.mp hb
  have atT : ∀ b ∈ ts, z.heap.get? b = some (tabO #[]) := fun b hb => by obtain ⟨p, hp, e⟩ := ofT b hb; rw [← e]; exact hT p hp
  have rv := vals_ints hi
  have lenV := hi.length
  have aT : a ∉ ts := fun q => by
    have e := ha.symm.trans (atT a q)
    cases e
  -- in both ways the script may stand: written, or tracked
  have core : ∀ o : Option HO, (o = none ∨ o = some (.frz { cls := .type "list", data := .seq vs.toArray } (.lst (ns.map V.int)))) → (o ≠ none → K.lookup a = none) → SqL K (startH ts a o) a (ns.map V.int) →
      codeAny (model P w) callerA (.call (.ref fa) ⟨[.ref a], []⟩) (fun r s' => r = .ok (.ret (.bool true)) ∧ OldK z.heap s'.heap ∧ s'.os = z.os ∧ AllBare s'.gens) z := by
    intro o ho hK hS
    generalize hH : startH ts a o = H at hS
    have tab : ∀ b ∈ ts, H b = some (.tbl #[]) := fun b q => by rw [← hH]; exact startH_tab q
    have inv : ∀ {b : Addr} {u : HO}, H b = some u → (b ∈ ts ∧ u = .tbl #[]) ∨ (b ∉ ts ∧ b = a ∧ u = .frz { cls := .type "list", data := .seq vs.toArray } (.lst (ns.map V.int)) ∧ K.lookup a = none) := fun {b u} e => by
      rw [← hH] at e
      rcases startH_inv e with q | ⟨q1, q2, q3⟩
      · exact .inl q
      · rcases ho with e1 | e1
        · rw [e1] at q3; cases q3
        · rw [e1] at q3
          exact .inr ⟨q1, q2, (Option.some.inj q3).symm, hK (by rw [e1]; exact fun q => nomatch q)⟩
    have hok : HOk P w H z.heap := fun b u e => by
      rcases inv e with ⟨q, rfl⟩ | ⟨_, rfl, rfl, _⟩
      · exact atT b q
      · exact ⟨ha, by rw [List.length_map]; exact hl, vs, _, rv, ha⟩
    -- what is neither a list nor an empty table is seen in the base
    have seen : ∀ {b : Addr} {ob : Obj}, z.heap.get? b = some ob → (∀ us n, ob.data ≠ .seq us n) → ob.data ≠ .fields #[] → (hidT z.heap H).get? b = some ob := fun {b ob} e h1 h2 => hidT_get e (by
      cases q : H b with
      | none => rfl
      | some u =>
        rcases inv q with ⟨q1, _⟩ | ⟨_, rfl, _, _⟩
        · rw [atT b q1] at e
          cases e
          exact absurd rfl h2
        · rw [ha] at e
          cases e
          exact absurd rfl (h1 _ _))
    have seenD : ∀ {b : Addr} {m : Str → Option Value}, z.heap.Ns b m → (hidT z.heap H).Ns b m := fun {b m} ⟨ob, es, ep, e, d, r⟩ =>
      ⟨ob, es, ep, seen e (fun us n q => by rw [d] at q; cases q) (fun q => by rw [d] at q; cases q), d, r⟩
    have KB : K.In (hidT z.heap H) := fun b ob e => hidT_get (KX b ob e) (by
      cases q : H b with
      | none => rfl
      | some u =>
        rcases inv q with ⟨q1, _⟩ | ⟨_, rfl, _, q2⟩
        · obtain ⟨p, hp, ep⟩ := ofT b q1
          rw [← ep, nT p hp] at e
          cases e
        · rw [q2] at e
          cases e)
    have MB : Mod K mg (hidT z.heap H) := ⟨KB, seenD G, ⟨mb, seenD B, B2⟩, let ⟨mc, h1, h2⟩ := L; ⟨mc, seenD h1, h2⟩⟩
    have TB : ∀ p ∈ cs, TabB (hidT z.heap H) mg p.1 p.2 := fun p hp => by
      refine ⟨?_, ?_, fun q => ?_⟩
      · obtain ⟨ob, us, file, tf, flags, tg, inF, text, tt, e1, r1, r2, r3, rest⟩ := C p hp
        refine ⟨ob, us, file, tf, flags, tg, inF, text, tt, seen e1 (fun us' n q => by rw [r2] at q; cases q) (fun q => ?_), r1, r2, r3, rest⟩
        rw [r2] at q
        cases q
        cases r3
      · obtain ⟨bm, ob, b1, b2, b3, b4, b5, b6⟩ := M
        refine ⟨bm, ob, b1, b2, fun q => ?_, fun q => ?_, seen b3 (fun us n q => by rw [b6] at q; cases q) (fun q => by rw [b6] at q; cases q), b4, b5, b6⟩
        · obtain ⟨ob', es, ep, e, hd, _⟩ := G
          rw [q, e] at b3
          cases b3
          rw [hd] at b6
          cases b6
        · rw [q, hT p hp] at b3
          cases b3
          cases b6
      · obtain ⟨ob, es, ep, e, hd, _⟩ := G
        rw [q, hT p hp] at e
        cases e
        cases hd
    have nofr : ∀ b, b ∉ frs ([] : List Env) := fun b q => nomatch q
    have e0 : Env0 P w K mg (hidT z.heap H) callerA [] z H := ⟨rfl, MB, fun b ob e => of_hidT e, Nat.le_of_eq (hidT_size _ _), trivial, fun b q => absurd q (nofr b), hok, .of_eq G0⟩
    refine codeAny_mono ((F _ KB (seenD G) TB).run callerA [] z H ⟨[.ref a], []⟩ [.ref a] [.ref a] _ _ rfl hr e0 (hb z (.ref a)) (.cons rfl .nil) (hsp H (fun p hp => tab _ (inT p hp)) hS)) fun r s' h => ?_
    match r, h with
    | .error e, h => exact False.elim h
    | .ok (.ret u), h =>
      obtain ⟨v, H', os, bare, un, hok', r', q⟩ := h
      have q' : v = .bl true := q
      subst q'
      obtain rfl : u = Value.bool true := r'
      have kept : ∀ b ob, b ∉ ts → z.heap.get? b = some ob → s'.heap.get? b = some ob := fun b ob nb e => by
        cases q : H b with
        | none => exact un.keep b ob e q (nofr b) (fun q => nomatch q)
        | some u =>
          rcases inv q with ⟨q1, _⟩ | ⟨_, _, rfl, _⟩
          · exact absurd q1 nb
          · have e1 := (hok b _ q).1
            have e2 := (hok' b _ (un.frzs b _ _ q)).1
            exact e2.trans (e1.symm.trans e)
      have more : ∀ b ∈ ts, ∃ m : Array Value, s'.heap.get? b = some (tabO m) := fun b q => by
        obtain ⟨m, e⟩ := un.tbls b #[] (tab b q)
        exact ⟨_, hok' b _ e⟩
      refine ⟨rfl, ⟨fun b ob e => ?_, fun b ob e => ?_⟩, os, bare⟩
      · by_cases hbt : b ∈ ts
        · obtain ⟨p, hp, rfl⟩ := ofT b hbt
          obtain ⟨m, e2⟩ := more _ hbt
          rw [hT p hp] at e
          cases e
          exact .inr (.inl ⟨((C p hp).tab (hT p hp)).isCodeTable, rfl, #[], m, rfl, by rw [Array.empty_append]; exact e2⟩)
        · exact .inl (kept b ob hbt e)
      · by_cases hbt : b ∈ ts
        · exact (more b hbt).elim fun m e2 => ⟨_, e2⟩
        · exact ⟨ob, kept b ob hbt e⟩
  cases hk : K.lookup a with
  | some ob =>
    have e := KX a ob hk
    rw [ha] at e
    cases e
    exact core none (.inl rfl) (fun q => absurd rfl q) (.inr ⟨_, vs.toArray, _, hk, rfl, rfl, rfl, by rw [List.size_toArray, lenV]; exact hl, by simpa using rv⟩)
  | none => exact core _ (.inr rfl) (fun _ => hk) (.inl (.inr ⟨_, startH_at aT⟩))
/-- what the head leaves, from such a promise -/
theorem walk_ofQT {l : PySem.W.OpenLaw} {n k : Nat} {q : Program} {loose : List Str} {XP : (Str → Option Value) → Heap → Prop} {YP : World → Heap → Prop} {d : DefRec} {K : Params → PySem.W.Frag} {x : Str}
    (hn : l.most = some n) (hn2 : n ≤ sizeLine) (hdf : d.params.defaults = []) (hr : Room k callerA) (hY : ∀ (w : World) (h : Heap), YP w h → (K w.params).In h)
    (F : ∀ (w : World) (mg : Str → Option Value) (fa : Addr) (h : Heap), YP w h → (K w.params).In h → h.Ns mainGlobals mg → mg d.name = some (.ref fa) →
      ∃ (fd : FuncData) (cs : List (Addr × Addr)) (sp : Sp), (∀ p ∈ cs, h.get? p.2 = some (tabO #[])) ∧ (∀ p ∈ cs, (K w.params).lookup p.2 = none) ∧ (∀ p ∈ cs, PySem.W.CodeHd h p.1 p.2) ∧ (∀ (s : Shared) (u : Value), BindsTo s fd ⟨[u], []⟩ [(x, u)]) ∧
        (∀ (H : Hp) (a : Addr) (ns : List Int), ns.length ≤ n → (∀ p ∈ cs, H p.2 = some (.tbl #[])) → SqL (K w.params) H a (ns.map V.int) → sp [.ref a] H (fun v _ => v = .bl true) fun _ _ _ => False) ∧
        ∀ base : Heap, (K w.params).In base → base.Ns mainGlobals mg → (∀ p ∈ cs, TabB base mg p.1 p.2) → FnQ l.prog w (K w.params) mg base CX0 k fa fd [x] sp) :
    PySem.W.WalkO q loose XP YP l.row.toRowW d [] (fun f vs => PySem.call f vs) := by
  refine Att.attach_call hn hdf fun w _ z mg _ fa _ _ _ _ a vs ns G Y _ _ _ hmg hobj hints hlen hg => ?_
  have KX := hY w _ Y
  obtain ⟨fd, cs, sp, hT, nT, C, hb, hsp, hF⟩ := F w mg fa _ Y KX G.T.g hmg
  exact law_callQT KX G.T.g G.T.b G.T.builtins G.T.nolimit hg hT nT C G.T.bmain hobj hints (Nat.le_trans hlen hn2) hr hF hb fun H hH hS => hsp H a ns hlen hH hS
end Gr

set_option Elab.async false
set_option maxRecDepth 100000
set_option maxHeartbeats 4000000
set_option linter.all false
/-! Ours: all but the well and the tables; facts of next asks as a row; soonest by name. -/
namespace KP
open PySem PySem.Spec PyProof.Rows L2 Gr GxR
def Mv {K : PySem.W.Frag} {mg : Str → Option Value} (T : D K mg) (p : Addr) (H H' : Hp) : Prop := (∀ b o, H b = some o → b ≠ p → (∀ ps, o ≠ .tbl ps) → H' b = some o) ∧ Well H' p ∧ Tb (tabs T) H'
section
variable {K : PySem.W.Frag} {mg : Str → Option Value} {T : D K mg} {p : Addr} {H H1 H2 : Hp}
theorem Mv.refl (w : Well H p) (h : Tb (tabs T) H) : Mv T p H H := ⟨fun _ _ e _ _ => e, w, h⟩
theorem Mv.trans (a : Mv T p H H1) (b : Mv T p H1 H2) : Mv T p H H2 := ⟨fun x o e n m => b.1 x o (a.1 x o e n m) n m, b.2⟩
theorem tab_but {q : Addr} (w : Well H p) (h : TabG H q) (b : But H H1 p) : TabG H1 q := by
  obtain ⟨ps, e, t⟩ := h
  refine ⟨ps, b _ _ e fun z => ?_, t⟩
  obtain ⟨_, _, _, ew⟩ := w
  rw [z, ew] at e
  cases e
theorem Mv.but (w : Well H p) (h : Tb (tabs T) H) (b : But H H1 p) (w1 : Well H1 p) : Mv T p H H1 := ⟨fun x o e n _ => b x o e n, w1, fun q hq => tab_but w (h q hq) b⟩
theorem Mv.up (w : Well H p) (h : Tb (tabs T) H) (u : UpL (tabs T) H H1) : Mv T p H H1 := by
  have s := u.stay h
  refine ⟨fun x o e _ m => s x o e m, ?_, u.1⟩
  obtain ⟨a, b, c, e⟩ := w
  exact ⟨a, b, c, s _ _ e (fun _ q => nomatch q)⟩
theorem Mv.same (w : Well H p) (h : Tb (tabs T) H) (s : Same H H1) : Mv T p H H1 := Mv.up w h (UpL.same h s)
theorem Mv.hid (m : Mv T p H H1) {v : V} {d : PyData} (o : Od (hide H [p]) v d) : Od (hide H1 [p]) v d := by
  refine o.stay fun a x e n => ?_
  unfold hide at e ⊢
  split at e
  · cases e
  · rename_i z
    rw [if_neg z]
    exact m.1 a x e (fun q => z (by rw [q]; exact List.mem_cons_self)) n
theorem Mv.b (m : Mv T p H H1) (b : But H1 H2 p) (w : Well H2 p) : Mv T p H H2 := m.trans (Mv.but m.2.1 m.2.2 b w)
theorem Mv.s (m : Mv T p H H1) (s : Same H1 H2) : Mv T p H H2 := m.trans (Mv.same m.2.1 m.2.2 s)
theorem Mv.u (m : Mv T p H H1) (u : UpL (tabs T) H1 H2) : Mv T p H H2 := m.trans (Mv.up m.2.1 m.2.2 u)
end
theorem vis {H : Hp} {p : Addr} {v : V} {d : PyData} (o : Od (hide H [p]) v d) : Od H v d := o.same (hide_same _ _)
theorem in_cut {ns : List Int} {lo hi : Option Int} {x : Int} (h : x ∈ cutI ns lo hi) : x ∈ ns := List.mem_of_mem_drop (List.mem_of_mem_take h)
theorem cut_len (ns : List Int) (lo hi : Option Int) : (cutI ns lo hi).length ≤ ns.length := by
  unfold cutI
  rw [List.length_take, List.length_drop]
  omega

theorem asc_srt_of : ∀ {l : List Int} {m : Int}, Srt l → (∀ x ∈ l, m ≤ x) → asc m l
  | [], _, _, _ => trivial
  | n :: l, m, h, g => ⟨g n List.mem_cons_self, asc_srt_of (fun i j hi hj hij => h (i + 1) (j + 1) (Nat.succ_lt_succ hi) (Nat.succ_lt_succ hj) (Nat.succ_le_succ hij)) fun x hx => by
    obtain ⟨i, hi, rfl⟩ := List.getElem_of_mem hx
    exact h 0 (i + 1) (Nat.succ_pos _) (Nat.succ_lt_succ hi) (Nat.zero_le _)⟩
theorem srt_tail {ns ts : List Int} (h : Srt (ns ++ ts)) : Srt ts := fun i j hi hj hij => by
  have := h (ns.length + i) (ns.length + j) (by rw [List.length_append]; omega) (by rw [List.length_append]; omega) (by omega)
  rw [List.getElem_append_right (by omega), List.getElem_append_right (by omega)] at this
  simpa using this
theorem row_facts {ps : List (Int × Int)} {hs ns ts : List Int} {st M : Int} (hp : ∀ p ∈ ps, 1 ≤ p.1 ∧ 1 ≤ p.2 ∧ p.2 ≤ 12) (h12 : hs.length ≤ 12) (ho : ∃ j : Nat, ∃ h : j < hs.length, hs[j] = 1) (sn : Srt ns) (sr : SRow ps hs ns st ts) (h1 : st ≤ M) (h2 : ∀ x ∈ ns, x ≤ M) : ∀ i, i ≤ ts.length → Srt (ns ++ ts.take i) ∧ (∀ x ∈ ts.take i, st ≤ x ∧ (∀ y ∈ ns, y ≤ x) ∧ x ≤ M + 24 * (i : Int))
  | 0, _ => by
    rw [List.take_zero, List.append_nil]
    exact ⟨sn, fun _ h => nomatch h⟩
  | i + 1, hi => by
    obtain ⟨a, b⟩ := row_facts hp h12 ho sn sr h1 h2 i (by omega)
    have n := sr i (by omega)
    have hall : ∀ x ∈ ns ++ ts.take i, x ≤ M + 24 * (i : Int) := fun x hx => by
      rcases List.mem_append.mp hx with h | h
      · have := h2 x h
        omega
      · exact (b x h).2.2
    have near := n.near a hp h12 ho (M := M + 24 * (i : Int)) (by omega) hall
    have e : ts.take (i + 1) = ts.take i ++ [ts[i]] := by rw [List.take_add_one, List.getElem?_eq_getElem (by omega)]; rfl
    rw [e]
    refine ⟨by rw [← List.append_assoc]; exact snoc_srt a n.past, fun x hx => ?_⟩
    rcases List.mem_append.mp hx with h | h
    · obtain ⟨b1, b2, b3⟩ := b x h
      exact ⟨b1, b2, by omega⟩
    · rw [List.mem_singleton.mp h]
      exact ⟨n.past.1, fun y hy => past_srt a n.past y (List.mem_append_left _ hy), by omega⟩
theorem row_all {ps : List (Int × Int)} {hs ns ts : List Int} {st M : Int} (hp : ∀ p ∈ ps, 1 ≤ p.1 ∧ 1 ≤ p.2 ∧ p.2 ≤ 12) (h12 : hs.length ≤ 12) (ho : ∃ j : Nat, ∃ h : j < hs.length, hs[j] = 1) (sn : Srt ns) (sr : SRow ps hs ns st ts) (h1 : st ≤ M) (h2 : ∀ x ∈ ns, x ≤ M) : Srt (ns ++ ts) ∧ (∀ x ∈ ts, st ≤ x ∧ (∀ y ∈ ns, y ≤ x) ∧ x ≤ M + 24 * (ts.length : Int)) := by
  have := row_facts hp h12 ho sn sr h1 h2 ts.length (Nat.le_refl _)
  rw [List.take_of_length_le (Nat.le_refl _)] at this
  exact this
theorem row_polite {ps : List (Int × Int)} {hs ns ts : List Int} {st : Int} (h : Polite ps hs ns) (sr : SRow ps hs ns st ts) : Polite ps hs (ns ++ ts) := fun j hj => by
  rw [List.length_append] at hj
  by_cases z : j < ns.length
  · have := h j z
    unfold politeAt at this ⊢
    rw [List.getD_eq_getElem?_getD] at this ⊢
    rw [List.getElem?_append_left z, List.take_append_of_le_length (by omega)]
    exact this
  · have n := sr (j - ns.length) (by omega)
    have e1 : (ns ++ ts).take j = ns ++ ts.take (j - ns.length) := by
      rw [List.take_append, List.take_of_length_le (by omega)]
    unfold politeAt
    rw [List.getD_eq_getElem?_getD, List.getElem?_append_right (by omega), List.getElem?_eq_getElem (by omega), e1]
    show (openI hs ts[j - ns.length] && ps.all (apI (ns ++ ts.take (j - ns.length)) ts[j - ns.length])) = true
    rw [n.opn, n.all]
    rfl
theorem sl_anyA {K : PySem.W.Frag} {x : V} {ns : List Int} {lo hi : Option Int} {H : Hp} {Q : VK} (h : AskV H x ns) (k : ∀ z H', Same H H' → AskV H' z (cutI ns lo hi) → Q z H') : rSlA K x lo hi H Q := by
  obtain ⟨a, rfl, o⟩ := h
  refine ⟨a, _, rfl, .inl o, fun q => ?_, fun _ p hp => k _ _ (same_upd hp) ⟨p, rfl, .inl (by rw [upd_same, cut_I])⟩⟩
  rw [List.length_map] at q
  refine k _ _ (.refl _) ⟨a, rfl, ?_⟩
  have e : cutI ns lo hi = ns := by
    unfold cutI
    rw [q.1, q.2, List.drop_zero, Nat.sub_zero, List.take_of_length_le (Nat.le_refl _)]
  rw [e]
  exact o
theorem te_low {K : PySem.W.Frag} {σ : L2.St} {H : Hp} {Q : VK} {i : Nat} {av : V} {ns : List Int} (h : σ[i]? = some (some av)) (iv : AskV H av ns) (sn : Srt ns) (hl : ns.length ≤ 1000) (k : ∀ m H', 0 ≤ m → (∀ x ∈ ns, x ≤ m) → (m = 0 ∨ m ∈ ns) → Same H H' → Q (.int m) H') : tCB (rMax K) (tCons (tOp rCat (tLst (tCons (tC (V.int 0)) tNil)) (tCB (fun xs H_1 Q => ∃ p ys, xs = [V.ref p] ∧ (SqL K H_1 p ys ∨ SqT K H_1 p ys) ∧ ∀ (l : Addr), H_1 l = none → Q (V.ref l) (upd H_1 l (HO.lst ys))) (tCons (tSl (rSlA K) (tVar i) (tPart (tUn (rU fun i => V.int (-i)) (tC (V.int 1)))) tNoPart) tNil))) tNil) σ H Q := by
  have mz : 5000 ≤ sizeLine := by decide
  refine ⟨by show 1 ≤ sizeLine; omega, fun c1 hc1 => ?_⟩
  have sa := same_upd (o := HO.lst [V.int 0]) hc1
  refine ⟨_, h, 1, rfl, _, rfl, ?_⟩
  dsimp only [tNoPart]
  refine sl_anyA (iv.same sa) fun z3 H3 s3 iz3 => ?_
  obtain ⟨zl, rfl, el3⟩ := iz3
  have lc := cut_len ns (some (-1)) none
  refine ⟨zl, _, rfl, .inr (.inl el3), fun c2 hc2 => ?_⟩
  have sb := same_upd (o := HO.lst ((cutI ns (some (-1)) none).map V.int)) hc2
  refine ⟨c1, c2, _, _, rfl, rfl, sb _ _ (s3 _ _ upd_same), upd_same, by rw [List.length_map]; show 1 + _ ≤ sizeLine; omega, fun c3 hc3 => ?_⟩
  have sc := same_upd (o := HO.lst ([V.int 0] ++ (cutI ns (some (-1)) none).map V.int)) hc3
  refine ⟨c3, 0 :: cutI ns (some (-1)) none, rfl, SqL.of upd_same, Nat.succ_pos _, fun m hm hle => ?_⟩
  refine k m _ (hle 0 List.mem_cons_self) (fun x hx => ?_) ?_ (sa.trans (s3.trans (sb.trans sc)))
  · obtain ⟨j, hj, rfl⟩ := List.getElem_of_mem hx
    have h1 := hle _ (List.mem_cons_of_mem _ (last_in (last_at (ns := ns) (by omega))))
    have h2 := sn j (ns.length - 1) hj (by omega) (by omega)
    omega
  · rcases List.mem_cons.mp hm with e | e
    · exact .inl e
    · exact .inr (in_cut e)
end KP

set_option Elab.async false
set_option maxRecDepth 100000
set_option maxHeartbeats 4000000
set_option linter.all false
/-! Ours: a call with keywords that may raise; data for == ; what can be laid. -/
namespace Gr
open PySem PySem.Spec PyProof.Rows L2 GxR
def tCallNS (n m : Nat) (sp : Sp) (gV : List V → List V → List V) (E : L2.St → XK) (t tk : TA) : TE := fun σ H Q => t σ H fun vs H1 => tk σ H1 fun zs H2 => vs.length = n ∧ zs.length = m ∧ sp (gV vs zs) H2 Q (E σ)
section
variable {X : Cx} {CX : CXT} {k n : Nat} {f : Addr} {fd : FuncData} {ps ks : List Str} {sp : Sp} {E : L2.St → XK} {x : Str} {p pos : Pos} {e : Expr} {es : List Expr} {kws : List Keyword} {t tk : TA} {g : List Value → List Value → List Value} {gV : List V → List V → List V}
theorem run_fnNS {pins : List (Addr × Obj)} {σ : L2.St} {H : Hp} {s : Shared} {Q : VK} {us ws : List Value} {vs zs : List V} (F : FnOk X.prog X.w X.K X.mg X.base CX k f fd ps sp) (hr : Room k X.A) (hb : KBn X.K fd ps n ks g gV) (hx : PassesAt CX X σ (E σ))
    (I : Inv X pins σ H s) (r : Vals vs us) (rz : Vals zs ws) (l1 : vs.length = n) (l2 : zs.length = ks.length) (h : sp (gV vs zs) H Q (E σ)) : wpAny (model X.prog X.w) X.A (call (.ref f) us (ks.zip ws)) (EP X pins σ Q) X.xe s := by
  have r2 := hb.rel r rz
  refine wpAny_call (codeAny_mono (F.run X.A X.stack s H ⟨us, ks.zip ws⟩ (g us ws) (gV vs zs) Q (E σ) hr I.env0 (hb.to s us ws I.kIn (r.length.symm.trans l1) (rz.length.symm.trans l2)) r2 h) fun r s' hq => ?_)
  cases r with
  | error e => exact hx pins H s e s' I hq
  | ok fl =>
    cases fl with
    | ret u => exact I.after hq
    | next => exact False.elim hq
    | brk => exact False.elim hq
    | cont => exact False.elim hq
/-- f(e, .., k = v, ..) that may raise -/
theorem pe_callNS (F : FnOk X.prog X.w X.K X.mg X.base CX k f fd ps sp) (hr : Room k X.A) (hg : Gl X x) (hm : X.mg x = some (.ref f)) (hk : PySem.W.keepIn X.K (.ref f) = true) (hb : KBn X.K fd ps n ks g gV) (hx : ∀ σ, PassesAt CX X σ (E σ))
    (ha : PA X (e :: es) t) (hkw : PK X kws tk) (hall : (backToKw pos (keywordEach kws X.env)).all (·.1.isSome) = true := by rfl) (hks : (backToKw pos (keywordEach kws X.env)).filterMap (·.1) = ks := by rfl)
    (hdb : (x == ("__debug__" : Str)) = false := by decide) (he : starEach (e :: es) X.env = (false, eval e X.env) :: starEach es X.env := by rfl)
    (hpl : ((backTo pos (starEach (e :: es) X.env)).any (·.1) || (backToKw pos (keywordEach kws X.env)).any (·.1.isNone)) = false := by rfl) :
    PE X (.Call (.Name x p) (e :: es) kws pos) (tCallNS n ks.length sp gV E t tk) := by
  refine ⟨fun pins s σ H Q I h => ?_⟩
  refine wpAny_Call_Name_kw (ld_glob I hg hm ?_ hdb)
  refine PySem.W.callWith_KW (h₀ := X.base) I.ok.mod.kin hk hall (thn (ha.run pos pins s σ H _ I h) fun us s1 ⟨vs, H1, I1, r, q⟩ => ?_) hpl he
  refine thn (hkw.run pos pins s1 σ H1 _ I1 q) fun ws s2 ⟨zs, H2, I2, rz, l1, l2, q2⟩ => ⟨I2.kIn, ?_⟩
  rw [hks]
  exact run_fnNS F hr hb (hx σ) I2 r rz l1 l2 q2
end
mutual
theorem Od.dp {K : PySem.W.Frag} {H : Hp} : ∀ {v : V} {d : PyData}, Od H v d → tupD d = true → Dp K H v d
  | _, _, .non, _ => .non
  | _, _, .bl b, _ => .bl b
  | _, _, .int i, _ => .int i
  | _, _, .str x, _ => .str x
  | _, _, .lst e a, h => by simp [tupD] at h
  | _, _, .tup e a, h => .tup (SqT.of e) (OdAll.dp a (by simpa [tupD] using h))
  | _, _, .dic e a b, h => by simp [tupD] at h
theorem OdAll.dp {K : PySem.W.Frag} {H : Hp} : ∀ {vs : List V} {ds : List PyData}, OdAll H vs ds → tupDs ds = true → DpAll K H vs ds
  | _, _, .nil, _ => .nil
  | _, _, .cons a b, h => by
    simp only [tupDs, Bool.and_eq_true] at h
    exact .cons (Od.dp a h.1) (OdAll.dp b h.2)
end
/-- what == takes -/
def Shp (k : Nat) (d : PyData) : Prop := d.canLay0 = true ∧ d.depth ≤ k
theorem shp_int (i : Int) : Shp 1 (.int i) := ⟨by simp [PyData.canLay0], by simp [PyData.depth]⟩
theorem shp_bool (b : Bool) : Shp 1 (.bool b) := ⟨by simp [PyData.canLay0], by simp [PyData.depth]⟩
theorem shp_none : Shp 1 .none := ⟨by simp [PyData.canLay0], by simp [PyData.depth]⟩
theorem lay_all : ∀ {ds : List PyData} {k : Nat}, (∀ d ∈ ds, Shp k d) → PyData.canLayAll0 ds = true ∧ PyData.depthAll ds ≤ k + 1
  | [], k, _ => ⟨by simp [PyData.canLayAll0], by simp [PyData.depthAll]⟩
  | d :: ds, k, h => by
    have a := h d List.mem_cons_self
    have b := lay_all (ds := ds) fun x hx => h x (List.mem_cons_of_mem _ hx)
    refine ⟨by simp [PyData.canLayAll0, a.1, b.1], ?_⟩
    simp only [PyData.depthAll]
    have := a.2
    have := b.2
    omega
theorem shp_tup {ds : List PyData} {k : Nat} (h : ∀ d ∈ ds, Shp k d) : Shp (k + 2) (.tuple ds) := by
  have b := lay_all h
  refine ⟨by rw [PyData.canLay0]; exact b.1, ?_⟩
  simp only [PyData.depth]
  have := b.2
  omega
theorem shp_lst {ds : List PyData} {k : Nat} (h : ∀ d ∈ ds, Shp k d) : Shp (k + 2) (.list ds) := by
  have b := lay_all h
  refine ⟨by rw [PyData.canLay0]; exact b.1, ?_⟩
  simp only [PyData.depth]
  have := b.2
  omega
theorem Shp.ok {k : Nat} {d : PyData} (h : Shp k d) (a : k ≤ 64 := by decide) : SeqAt.shaped d = true := by
  unfold SeqAt.shaped
  rw [Bool.and_eq_true, decide_eq_true_eq]
  exact ⟨h.1, Nat.le_trans h.2 a⟩
theorem Shp.mono {k j : Nat} {d : PyData} (h : Shp k d) (a : k ≤ j) : Shp j d := ⟨h.1, Nat.le_trans h.2 a⟩
end Gr

set_option Elab.async false
set_option maxRecDepth 100000
set_option maxHeartbeats 4000000
set_option linter.all false
/-! Ours: a field as one of several targets; a method's call that may raise within a try. -/
namespace Gr
open PySem PySem.Spec PyProof.Rows L2 GxR
/-- o.f = .., as a target -/
def gFld (K : PySem.W.Frag) (to : TE) (f : Str) : TG := fun v σ H Q => to σ H fun x H1 => ∃ a C dx fs, x = .ref a ∧ H1 a = some (.ins C dx fs) ∧ Cls K C ∧ NoAttr K C f ∧ fs.length < 1000 ∧ Q σ (upd H1 a (.ins C dx (putF f v fs)))
theorem pg_fld {X : Cx} {pos : Pos} {o : Expr} {f : Str} {to : TE} (ho : PE X o to) : PG X (.Attribute o f pos) (gFld X.K to f) := by
  refine ⟨fun pins s σ H v u Q I r h => ?_⟩
  refine PySem.W.kas_attr (thn (ho.run pins s σ H _ I h) fun ov s1 ⟨x, H1, I1, rx, a, C, dx, fs, ex, ea, c, n, l, q⟩ => ?_)
  subst ex
  obtain rfl : ov = Value.ref a := rx
  exact setattr_ok I1 ea c n l r fun s2 I2 => ⟨σ, _, I2, q⟩
def tMethX (C : Addr) (m : Str) (sp : Sp) (dvs : List V) (E : L2.St → XK) (ta : TE) (t : TA) : TE := fun σ H Q => ta σ H fun x H1 => ∃ a dx fs, x = .ref a ∧ H1 a = some (.ins C dx fs) ∧ fs.lookup m = none ∧
  t σ H1 fun vs H2 => sp (x :: (vs ++ dvs)) H2 Q (E σ)
section
variable {X : Cx} {CX : CXT} {k : Nat} {f C : Addr} {fd : FuncData} {ps : List Str} {sp : Sp} {dvs : List V} {ds : List Value} {E : L2.St → XK} {x m : Str} {p pos apos : Pos} {e o : Expr} {es : List Expr} {ta : TE} {t : TA}
theorem run_fnX {pins : List (Addr × Obj)} {σ : L2.St} {H : Hp} {s : Shared} {Q : VK} {us : List Value} {vs : List V} {E : XK} (F : FnOk X.prog X.w X.K X.mg X.base CX k f fd ps sp) (hr : Room k X.A) (hb : Binds X.K fd ps ds) (hd : Vals dvs ds) (hx : PassesAt CX X σ E)
    (I : Inv X pins σ H s) (r : Vals vs us) (h : sp (vs ++ dvs) H Q E) : wpAny (model X.prog X.w) X.A (call (.ref f) us) (EP X pins σ Q) X.xe s := by
  have r2 : Vals (vs ++ dvs) (us ++ ds) := r.append hd
  have hl : (us ++ ds).length = ps.length := by rw [← r2.length]; exact F.len _ _ _ _ h
  refine wpAny_call (codeAny_mono (F.run X.A X.stack s H ⟨us, []⟩ (us ++ ds) (vs ++ dvs) Q E hr I.env0 (hb s us I.kIn hl) r2 h) fun r s' hq => ?_)
  cases r with
  | error e => exact hx pins H s e s' I hq
  | ok fl =>
    cases fl with
    | ret u => exact I.after hq
    | next => exact False.elim hq
    | brk => exact False.elim hq
    | cont => exact False.elim hq
/-- o.m(e, ..) that may raise -/
theorem pe_methX {pl : Sem Bool} (he : PE X o ta) (c : Cls X.K C) (hm : Meth X.K C m f) (F : FnOk X.prog X.w X.K X.mg X.base CX k f fd ps sp) (hr : Room k X.A) (hb : Binds X.K fd ps ds) (hd : Vals dvs ds) (hx : ∀ σ, PassesAt CX X σ (E σ)) (ha : PA X (e :: es) t)
    (hst : starEach (e :: es) X.env = (false, eval e X.env) :: starEach es X.env := by rfl) (hpl : (backTo pos (starEach es X.env)).any (·.1) = false := by rfl)
    (ht : eval (.Call (.Attribute o m apos) (e :: es) [] pos) X.env = (do
      let ov ← eval o X.env
      standAt apos.atName
      let (f, first) ← holding [ov] (getMethod ov m pl)
      callWith pos f first (backTo pos (starEach (e :: es) X.env)) (backToKw pos (keywordEach [] X.env))) := by rfl) :
    PE X (.Call (.Attribute o m apos) (e :: es) [] pos) (tMethX C m sp dvs E ta t) := by
  refine ⟨fun pins s σ H Q I h => ?_⟩
  refine PySem.W.methodCall_KW (pl := pl) (thn (he.run pins s σ H _ I h) fun u s1 ⟨x, H1, I1, rx, a, dx, fs, ex, ea, l, q⟩ => ?_) ht
  subst ex
  obtain rfl : u = Value.ref a := rx
  refine getmeth_ok I1 ea c hm l ?_
  refine PySem.W.callWith_K (first := [.ref a]) (h₀ := X.base) I.ok.mod.kin hm.kp (thn (ha.run pos pins s1 σ H1 _ I1 q) fun us s2 ⟨vs, H2, I2, r, q2⟩ => ⟨I2.kIn, ?_⟩) hst hpl
  exact run_fnX (us := .ref a :: us) (vs := .ref a :: vs) F hr hb hd (hx σ) I2 (.cons rfl r) q2
end
/-- o.m(e, ..) of a builtin, within a comprehension's block -/
theorem pe_bmB {X : Cx} {s : Shared} {H : Hp} {sc : Scope} {en : Env} {fp : List Addr} {o e : Expr} {es : List Expr} {to : TE} {t : TA} {name : Str} {apos cpos : Pos} {T id : String} {r : V → List V → Hp → VK → Prop}
    (pa : PlainAttrs T) (slot : Slot T name id) (hty : typeOf (.builtin id) = pure (.type "method_descriptor")) (hm : MtR (X.blk s H sc en fp) id r) (ho : PE (X.blk s H sc en fp) o to) (ha : PA (X.blk s H sc en fp) (e :: es) t)
    (hbase : attributeBase o name (X.blk s H sc en fp).env (eval o (X.blk s H sc en fp).env) = eval o (X.blk s H sc en fp).env := by rfl)
    (hfew : ((backTo cpos (starEach (e :: es) (X.blk s H sc en fp).env)).all (fun x => !x.1) && (backToKw cpos (keywordEach [] (X.blk s H sc en fp).env)).all (fun x => x.1.isSome)
      && decide ((e :: es).length + ([] : List Keyword).length + (if ([] : List Keyword).isEmpty then 0 else 1) < 30)) = true := by rfl)
    (hline : (apos.endLine == cpos.line) = true := by rfl) (hs : starEach (e :: es) (X.blk s H sc en fp).env = (false, eval e (X.blk s H sc en fp).env) :: starEach es (X.blk s H sc en fp).env := by rfl) (hplain : (backTo cpos (starEach es (X.blk s H sc en fp).env)).any (·.1) = false := by rfl) :
    PE (X.blk s H sc en fp) (.Call (.Attribute o name apos) (e :: es) [] cpos) (tBM X.K T r to t) := pe_bm pa slot hty hm ho ha hbase hfew hline hs hplain
/-- o.m(e, .., k = v) -/
def tMethK (C : Addr) (m : Str) (n nk : Nat) (sp : Sp) (gV : List V → List V → List V) (E : XK) (ta : TE) (t tk : TA) : TE := fun σ H Q => ta σ H fun x H1 => ∃ a dx fs, x = .ref a ∧ H1 a = some (.ins C dx fs) ∧ fs.lookup m = none ∧
  t σ H1 fun vs H2 => tk σ H2 fun zs H3 => vs.length = n ∧ zs.length = nk ∧ sp (gV (x :: vs) zs) H3 Q E
section
variable {X : Cx} {CX : CXT} {k n : Nat} {f C : Addr} {fd : FuncData} {ps ks : List Str} {sp : Sp} {E : XK} {x m : Str} {p pos apos : Pos} {e o : Expr} {es : List Expr} {kws : List Keyword} {ta : TE} {t tk : TA} {g : List Value → List Value → List Value} {gV : List V → List V → List V}
theorem pe_methKn {pl : Sem Bool} (he : PE X o ta) (c : Cls X.K C) (hm : Meth X.K C m f) (F : FnOk X.prog X.w X.K X.mg X.base CX k f fd ps sp) (hr : Room k X.A) (hb : KBn X.K fd ps (n + 1) ks g gV) (hx : Passes CX X E) (ha : PA X (e :: es) t) (hkw : PK X kws tk)
    (hall : (backToKw pos (keywordEach kws X.env)).all (·.1.isSome) = true := by rfl) (hks : (backToKw pos (keywordEach kws X.env)).filterMap (·.1) = ks := by rfl)
    (hst : starEach (e :: es) X.env = (false, eval e X.env) :: starEach es X.env := by rfl)
    (hpl : ((backTo pos (starEach (e :: es) X.env)).any (·.1) || (backToKw pos (keywordEach kws X.env)).any (·.1.isNone)) = false := by rfl)
    (ht : eval (.Call (.Attribute o m apos) (e :: es) kws pos) X.env = (do
      let ov ← eval o X.env
      standAt apos.atName
      let (f, first) ← holding [ov] (getMethod ov m pl)
      callWith pos f first (backTo pos (starEach (e :: es) X.env)) (backToKw pos (keywordEach kws X.env))) := by rfl) :
    PE X (.Call (.Attribute o m apos) (e :: es) kws pos) (tMethK C m n ks.length sp gV E ta t tk) := by
  refine ⟨fun pins s σ H Q I h => ?_⟩
  refine PySem.W.methodCall_KW (pl := pl) (thn (he.run pins s σ H _ I h) fun u s1 ⟨x, H1, I1, rx, a, dx, fs, ex, ea, l, q⟩ => ?_) ht
  subst ex
  obtain rfl : u = Value.ref a := rx
  refine getmeth_ok I1 ea c hm l ?_
  refine PySem.W.callWith_KW (first := [.ref a]) (h₀ := X.base) I.ok.mod.kin hm.kp hall (thn (ha.run pos pins s1 σ H1 _ I1 q) fun us s2 ⟨vs, H2, I2, r, q2⟩ => ?_) hpl hst
  refine thn (hkw.run pos pins s2 σ H2 _ I2 q2) fun ws s3 ⟨zs, H3, I3, rz, l1, l2, q3⟩ => ⟨I3.kIn, ?_⟩
  rw [hks]
  exact run_fnNS (E := fun _ => E) (us := .ref a :: us) (vs := .ref a :: vs) F hr hb (fun pins H s e s' I c => hx pins σ H s e s' I c) I3 (.cons rfl r) rz (by rw [List.length_cons, l1]) l2 q3
end
section
variable {K : PySem.W.Frag} {x qual : Str} {params : Arguments} {body : List Stmt} {scope : Scope} {dvs : List V} {f : Addr} {fd : FuncData} {ps : List Str}
/-- defaults of the positional ones; those that are written by name -/
theorem kbinds1 (F : FunD K x qual params body scope dvs [] f fd) (n : Nat) (ks : List Str) (hd : dvs ≠ [])
    (h : ∀ (T : Addr) (kV doc pm : Value) (an : Option Addr) (cdv ct : Value) (us ws its : List Value), us.length = n → ws.length = ks.length → its.length = dvs.length →
      ∃ k, bindArgs (PySem.W.fnOf x qual params body scope (.ref T) kV doc pm an cdv ct) ⟨us, ks.zip ws⟩ = seqItems? (.ref T) >>= k ∧ k (some its.toArray) = pure (ps.zip (us ++ ws))) : KBn K fd ps n ks (fun us ws => us ++ ws) (fun vs zs => vs ++ zs) := by
  obtain ⟨oc, od, dV, kV, doc, pm, an, cdv, ct, osl, rfl, lk, hcd, hD, hK⟩ := F.ex
  rcases hD with ⟨e, _⟩ | ⟨_, T, o, its, m, rfl, lT, oT, rT⟩
  · exact absurd e hd
  · refine ⟨fun s us ws X l1 l2 => ?_, fun a b => a.append b⟩
    obtain ⟨k, e1, e2⟩ := h T kV doc pm an cdv ct us ws its l1 l2 rT.length.symm
    refine BindsTo.of_looks fun M => ?_
    rw [e1]
    exact looks_items X lT oT (.of_pure e2)
end
end Gr

set_option Elab.async false
set_option maxRecDepth 100000
set_option maxHeartbeats 4000000
set_option linter.all false
/-! Ours: an own exception class with its own __init__, made as a value by position or by keyword; its fields read; isinstance of it. -/
namespace PySem
namespace GrX
open PySem.W PySem.Calls PyProof.Rows PySem.HandSPX
section
variable {M : Model} {prog : Program} {w : World} {A : Around} {E : Value → Shared → Prop} {R : Result → Shared → Prop} {h : Heap} {g : Array GenState} {d : Drawn} {t : Nat} {os : OsState}
variable {nm q : Str} {C N : Addr} {bs bm bmB : List Value} {hdct : Bool} {sn : List Str} {sub : List Value} {ab : Bool} {col : Option Bool} {dd : Option Addr} {k0 k1 k2 k3 k5 : Option Value} {B newId initId : String}

theorem check_newK (F : ExcBaseFacts B newId initId bmB) (hT : ∀ X : String, bm.contains (.type X) = bmB.contains (.type X)) {rest : List Value} {kw : List (Str × Value)} {Q : Unit → Shared → Prop}
    (hC : h.get? C = some (excClassObj nm q C N bs bm hdct sn sub ab col dd k0 k1 k2 k3 k5 newId)) (hq : Q () ⟨h, g, d, t, os⟩) :
    wpAny M A (checkBuiltinCall newId ⟨.ref C :: rest, kw⟩) Q E ⟨h, g, d, t, os⟩ := by
  have hin : (Value.ref C :: bm).contains (.type B) = true := by rw [List.contains_cons, hT, F.hasB, Bool.or_true]
  have hst := F.noStar
  simp only [checkBuiltinCall, F.newKind, F.newSplit, F.newRow]
  repeat (first
    | refine wpAny_loadPart_at hC ?_
    | (refine wpAny_isSubtype_exc hC ?_; rw [hin])
    | refine wpAny_staticBase_exc hC ?_
    | refine wpAny_madeBy_exc hC ?_
    | simp only [bne_self_eq_false, Bool.false_eq_true, if_false]
    | wp_step)
  exact hq

theorem newK (F : ExcBaseFacts B newId initId bmB) (hT : ∀ X : String, bm.contains (.type X) = bmB.contains (.type X)) {rest : List Value} {kw : List (Str × Value)}
    (hC : h.get? C = some (excClassObj nm q C N bs bm hdct sn sub ab col dd k0 k1 k2 k3 k5 newId)) (hz : rest.length ≤ sizeLine)
    (hq : R (.ok (.ret (.ref (h.objs.size + 1)))) ⟨(h.push (W.kdv_tup rest)).push (excO C h.objs.size), g, d, t, os⟩) :
    codeAny (model prog w) A (.builtin newId ⟨.ref C :: rest, kw⟩) R ⟨h, g, d, t, os⟩ := by
  have he := F.ends
  have c1 : (Value.ref C :: bm).contains (.type B) = true := by rw [List.contains_cons, hT, F.hasB, Bool.or_true]
  have c2 : (Value.ref C :: bm).contains (.type "AttributeError") = false := by rw [List.contains_cons, hT, F.noAttr]; rfl
  have c3 : (Value.ref C :: bm).contains (.type "NameError") = false := by rw [List.contains_cons, hT, F.noName]; rfl
  refine codeAny_builtinAt F.entry ?_
  unfold Builtin.«BaseException.__new__»
  refine wpAt_bind ?_
  show wpAt _ _ _ (stack >>= _) _ _ _
  refine wpAt_bind (wpAt_stack fun p below => wpAt_of_wpAny ?_)
  wp_walk
  refine wpAt_of_wpAny ?_
  rw [F.owner]
  repeat (first
    | with_reducible refine wpAny_madeHere_exc F.canon hC ?_
    | with_reducible refine wpAny_loadPart_at hC ?_
    | (with_reducible refine wpAny_isSubtype_exc hC ?_; first | rw [c1] | rw [c2] | rw [c3])
    | wp_step)
  show R _ _
  rw [Heap.size_push]
  exact hq

theorem tcallK (F : ExcBaseFacts B newId initId bmB) (hT : ∀ X : String, bm.contains (.type X) = bmB.contains (.type X)) {rest : List Value} {kw : List (Str × Value)} {fI : Addr} {Q : Fin → Shared → Prop}
    (hC : h.get? C = some (excClassObj nm q C N bs bm hdct sn sub ab col dd k0 k1 k2 k3 k5 newId))
    (hi : W.Looks (model prog w) h (typeLookup (.ref C) "__init__") (some (.ref fI))) (hb : ∀ self, W.Looks (model prog w) h (bindSpecial (.ref fI) self) (.ref fI, [self])) (hz : rest.length ≤ sizeLine)
    (hq : codeAny (model prog w) A (.call (.ref fI) ⟨.ref (h.objs.size + 1) :: rest, kw⟩)
      (fun r s' => match r with | .ok (.ret v) => v = .none ∧ Q (.done (.ret (.ref (h.objs.size + 1)))) s' | .ok _ => False | .error e => E e s')
      ⟨(h.push (W.kdv_tup rest)).push (excO C h.objs.size), g, d, t, os⟩) :
    wpAny (model prog w) A (Builtin.«type.__call__» ⟨.ref C :: rest, kw⟩) Q E ⟨h, g, d, t, os⟩ := by
  repeat (first | with_reducible refine wpAny_loadPart_at hC ?_ | with_reducible refine wpAny_madeBy_exc hC ?_ | wp_step)
  refine codeAny_call_builtin_code (Code.quiet_builtin _ F.quiet) (check_newK F hT hC ?_)
  refine newK F hT hC hz ?_
  show wpAny _ _ _ _ _ _
  have kp : ∀ b o, h.get? b = some o → ((h.push (W.kdv_tup rest)).push (excO C h.objs.size)).get? b = some o := fun b o e => Heap.get?_push_of_some _ (Heap.get?_push_of_some _ e)
  have hC1 := kp _ _ hC
  have hg1 : ((h.push (W.kdv_tup rest)).push (excO C h.objs.size)).get? (h.objs.size + 1) = some (excO C h.objs.size) := by heap_get
  have hcC : (Value.ref C :: bm).contains (.ref C) = true := by simp
  have hi1 := hi.keeps kp
  have hb1 := (hb (.ref (h.objs.size + 1))).keeps kp
  unfold isInstance
  repeat (first | with_reducible refine wpAny_loadPart_at hg1 ?_ | (with_reducible refine wpAny_isSubtype_exc hC1 ?_; rw [hcC]) | wp_step)
  show wpAny _ _ (typeLookup (.ref C) _) _ _ _
  refine hi1.at ?_
  refine wpAny_holding (wpAny_bind (hb1.at ?_))
  refine wpAny_bind (wpAny_call (codeAny_mono hq fun r s' z => ?_))
  rcases r with e | (v | _ | _ | _) <;> first | exact z | exact z.elim | skip
  obtain ⟨rfl, z⟩ := z
  first
    | exact wpAny_pure (wpAny_pure z)
    | (wp_walk; exact z)

theorem callK (F : ExcBaseFacts B newId initId bmB) (hT : ∀ X : String, bm.contains (.type X) = bmB.contains (.type X)) {rest : List Value} {kw : List (Str × Value)} {fI : Addr}
    (hC : h.get? C = some (excClassObj nm q C N bs bm hdct sn sub ab col dd k0 k1 k2 k3 k5 newId))
    (hi : W.Looks (model prog w) h (typeLookup (.ref C) "__init__") (some (.ref fI))) (hb : ∀ self, W.Looks (model prog w) h (bindSpecial (.ref fI) self) (.ref fI, [self])) (hz : rest.length ≤ sizeLine)
    (hq : codeAny (model prog w) (A.under (.builtin "type.__call__" ⟨.ref C :: rest, kw⟩)) (.call (.ref fI) ⟨.ref (h.objs.size + 1) :: rest, kw⟩) (W.InitBack (h.objs.size + 1) R)
      ⟨(h.push (W.kdv_tup rest)).push (excO C h.objs.size), g, d, t, os⟩) :
    codeAny (model prog w) A (.call (.ref C) ⟨rest, kw⟩) R ⟨h, g, d, t, os⟩ := by
  have f1 := tc_lookup
  have f2 := tc_bind (.ref C)
  have hTy : (⟨h, g, d, t, os⟩ : Shared).TypeIs (.ref C) "type" := ⟨_, hC, rfl⟩
  refine codeAny_of_tree ?_
  show wpAny _ _ (callAny (.ref C) _) _ _ _
  repeat (any_goals (first | assumption | with_reducible refine wpAny_loadPart_at hC ?_ | wp_step))
  refine ⟨rfl, ?_⟩
  refine codeAny_call_builtin_at (Code.quiet_builtin _ (by decide +kernel)) entry_typeCall (wpAny_check_type_call_sub hC (tcallK F hT hC hi hb hz ?_))
  refine codeAny_mono hq fun r s' z => ?_
  rcases r with e | (v | _ | _ | _) <;> exact z
end
end GrX
end PySem

set_option Elab.async false
set_option maxRecDepth 100000
set_option maxHeartbeats 4000000
set_option linter.all false
namespace Gr
open PySem PySem.Spec PyProof.Rows L2

/-! ### own exceptions as values -/
section
variable {X : Cx} {CX : CXT} {k : Nat} {C fI : Addr} {fd : FuncData} {ps : List Str} {sp : Sp}
/-- C(..) with C's own __init__: a new exception, kept -/
theorem run_exv {pins : List (Addr × Obj)} {σ : L2.St} {H : Hp} {s : Shared} {Q : VK} {rest ws : List Value} {kw : List (Str × Value)} {vs : List V}
    (T : OexC X.K C) (iC : PySem.W.findIn X.K (.ref C) "__init__" = some (some (.ref fI))) (tI : PySem.W.typeIn X.K (.ref fI) = some (.type "function"))
    (F1 : FnOk X.prog X.w X.K X.mg X.base CX k fI fd ps sp) (hr : Room (k + 1) X.A) (hx : Passes CX X (fun _ _ _ => False))
    (hb : ∀ (s : Shared) (self : Value), X.K.In s.heap → BindsTo s fd ⟨self :: rest, kw⟩ (ps.zip (self :: ws))) (r : Vals vs ws) (hz : rest.length ≤ 1000)
    (I : Inv X pins σ H s) (h : ∀ a, H a = none → sp (.ref a :: vs) (upd H a (exo a C none)) (fun v H2 => v = .non ∧ Q (.ref a) H2) (fun _ _ _ => False)) :
    wpAny (model X.prog X.w) X.A (call (.ref C) rest kw) (EP X pins σ Q) X.xe s := by
  obtain ⟨nm, q, N, bs, bm, sn, sub, ab, col, dd, k0, k1, k2, k3, k5, hC, hbm⟩ := T.cls
  obtain ⟨hp, g, dr, tk, os⟩ := s
  have hsz : hp.objs.size ≤ hp.objs.size + 1 := Nat.le_succ _
  have hn : H (hp.objs.size + 1) = none := I.hok.fresh hsz
  have hq := h (hp.objs.size + 1) hn
  have kk : ∀ b o, hp.get? b = some o → ((hp.push (PySem.W.kdv_tup rest)).push (PySem.HandSPX.excO C hp.objs.size)).get? b = some o :=
    fun b o e => Heap.get?_push_of_some _ (Heap.get?_push_of_some _ e)
  have hget : ((hp.push (PySem.W.kdv_tup rest)).push (PySem.HandSPX.excO C hp.objs.size)).get? (hp.objs.size + 1) = some (PySem.HandSPX.excO C hp.objs.size) := by heap_get
  have I2 : Inv X pins σ (upd H (hp.objs.size + 1) (exo (hp.objs.size + 1) C none)) ⟨(hp.push (PySem.W.kdv_tup rest)).push (PySem.HandSPX.excO C hp.objs.size), g, dr, tk, os⟩ :=
    I.laid (t' := tk) (a := hp.objs.size + 1) (o := exo (hp.objs.size + 1) C none) kk hsz (exo_ok hget)
  have r2 : Vals (V.ref (hp.objs.size + 1) :: vs) (Value.ref (hp.objs.size + 1) :: ws) := .cons rfl r
  have hus : rest.length ≤ sizeLine := by
    rw [sizeLine_eq]
    omega
  refine wpAny_call (PySem.GrX.callK F.excBase_ValueError (fun Y => PySem.HandSPX.refsVE_contains Y bm hbm) (I.kIn _ _ hC) (PySem.W.looks_findIn I.kIn iC) (fun self => PySem.W.bind_fn I.kIn self tI) hus
    (codeAny_mono (F1.run _ X.stack _ _ ⟨Value.ref (hp.objs.size + 1) :: rest, kw⟩ (Value.ref (hp.objs.size + 1) :: ws) _ _ (fun _ _ _ => False) (hr.make C rest kw) (I2.env0.make C rest kw) (hb _ _ I2.kIn) r2 hq) fun rr s' hq' => ?_))
  match rr, hq' with
  | .error er, hq' => exact hx pins σ _ _ er s' I2 hq'
  | .ok (.ret u), hq' =>
    obtain ⟨v, H', I3, rv, ev, q3⟩ := I2.after hq'
    subst ev
    exact ⟨rv, ⟨V.ref (hp.objs.size + 1), H', I3, rfl, q3⟩⟩

/-- what C(e) asks -/
def tExv (C : Addr) (sp : Sp) (te : TE) : TE := fun σ H Q => te σ H fun y H1 => ∀ a, H1 a = none → sp [.ref a, y] (upd H1 a (exo a C none)) (fun v H2 => v = .non ∧ Q (.ref a) H2) (fun _ _ _ => False)
/-- how __init__(self, f) binds, by position and by name -/
structure Bnd1 (K : PySem.W.Frag) (fd : FuncData) (ps : List Str) (f : Str) : Prop where
  pos : ∀ (s : Shared) (self u : Value), K.In s.heap → BindsTo s fd ⟨[self, u], []⟩ (ps.zip [self, u])
  kw : ∀ (s : Shared) (self u : Value), K.In s.heap → BindsTo s fd ⟨[self], [(f, u)]⟩ (ps.zip [self, u])
variable {x f : Str} {p pos kpos : Pos} {e : Expr} {te : TE}
theorem pe_exv (T : OexC X.K C) (iC : PySem.W.findIn X.K (.ref C) "__init__" = some (some (.ref fI))) (tI : PySem.W.typeIn X.K (.ref fI) = some (.type "function"))
    (F1 : FnOk X.prog X.w X.K X.mg X.base CX k fI fd ps sp) (hr : Room (k + 1) X.A) (hx : Passes CX X (fun _ _ _ => False)) (hb : Bnd1 X.K fd ps f)
    (hg : Gl X x) (hm : X.mg x = some (.ref C)) (he : PE X e te) (hdb : (x == ("__debug__" : Str)) = false := by decide)
    (hs : starEach [e] X.env = (false, eval e X.env) :: starEach [] X.env := by rfl) (hpl : (backTo pos (starEach [] X.env)).any (·.1) = false := by rfl) :
    PE X (.Call (.Name x p) [e] [] pos) (tExv C sp te) := by
  have ha : PA X [e] (tCons te tNil) := pa_cons he pa_nil hs
  refine ⟨fun pins s σ H Q I h => ?_⟩
  refine wpAny_Call_Name_kw (ld_glob I hg hm ?_ hdb)
  refine PySem.W.callWith_K (h₀ := X.base) I.ok.mod.kin T.kC (thn (ha.run pos pins s σ H (fun vs H1 => match vs with
    | [y] => ∀ a, H1 a = none → sp [.ref a, y] (upd H1 a (exo a C none)) (fun v H2 => v = .non ∧ Q (.ref a) H2) (fun _ _ _ => False)
    | _ => False) I h) fun us s1 hh => ?_) hs hpl
  obtain ⟨vs, H1, I1, r, q⟩ := hh
  match vs, r, q with
  | [y], r, q =>
    obtain ⟨u, rfl, ru⟩ := vals1 r
    exact ⟨I1.kIn, run_exv (rest := [u]) (ws := [u]) (kw := []) (vs := [y]) T iC tI F1 hr hx (fun s self k => hb.pos s self u k) r (by simp) I1 q⟩
/-- C(f = e) -/
theorem pe_exk (T : OexC X.K C) (iC : PySem.W.findIn X.K (.ref C) "__init__" = some (some (.ref fI))) (tI : PySem.W.typeIn X.K (.ref fI) = some (.type "function"))
    (F1 : FnOk X.prog X.w X.K X.mg X.base CX k fI fd ps sp) (hr : Room (k + 1) X.A) (hx : Passes CX X (fun _ _ _ => False)) (hb : Bnd1 X.K fd ps f)
    (hg : Gl X x) (hm : X.mg x = some (.ref C)) (he : PE X e te) (hdb : (x == ("__debug__" : Str)) = false := by decide) :
    PE X (.Call (.Name x p) [] [⟨some f, e, kpos⟩] pos) (tExv C sp te) := by
  have ha : PK X [⟨some f, e, kpos⟩] (tCons te tNil) := pk_cons he pk_nil
  refine ⟨fun pins s σ H Q I h => ?_⟩
  refine wpAny_Call_Name_kw (ld_glob I hg hm ?_ hdb)
  refine PySem.W.callWith_KW0 (h₀ := X.base) I.ok.mod.kin T.kC rfl (thn (ha.run pos pins s σ H (fun vs H1 => match vs with
    | [y] => ∀ a, H1 a = none → sp [.ref a, y] (upd H1 a (exo a C none)) (fun v H2 => v = .non ∧ Q (.ref a) H2) (fun _ _ _ => False)
    | _ => False) I h) fun us s1 hh => ?_) rfl
  obtain ⟨vs, H1, I1, r, q⟩ := hh
  match vs, r, q with
  | [y], r, q =>
    obtain ⟨u, rfl, ru⟩ := vals1 r
    exact ⟨I1.kIn, run_exv (rest := []) (ws := [u]) (kw := [(f, u)]) (vs := [y]) T iC tI F1 hr hx (fun s self k => hb.kw s self u k) r (by simp) I1 q⟩
end
end Gr

set_option Elab.async false
set_option maxRecDepth 100000
set_option maxHeartbeats 4000000
set_option linter.all false
namespace PySem
namespace GrX
open PySem.W PySem.Calls PyProof.Rows
section
variable {prog : Program} {w : World} {A : Around} {E : Value → Shared → Prop} {s : Shared} {K : Frag} {x D : Addr} {ox : Obj} {od : Option Obj}
theorem findObj_any {C : Addr} {name : Str} {a g : Value} (hc : (clsIn K C).isSome = true) (ha : findIn K (.ref C) name = some (some a)) (hg : specialIn K a "__get__" = some (some g)) (ht : takesIn K a = some true) :
    findObj K C od name = some (.bind g a) := by
  obtain ⟨cd, hc⟩ := Option.isSome_iff_exists.mp hc
  unfold findObj
  rw [hc, Option.bind_some, ha, Option.bind_some]
  simp [hg, ht]
/-- x.__class__, x an error of the class at D, its dict whatever it is -/
theorem class_any {Q : Option Value → Shared → Prop} (hga : findIn K (.ref D) "__getattribute__" = some (some (.builtin "BaseException.__getattribute__"))) (hgt : findIn K (.ref D) "__getattr__" = some none) (hsub : subIn K (.ref D) (.type "BaseException") = some true)
    (hdct : hasDictIn K D = true) (ha : findIn K (.ref D) "__class__" = some (some (.builtin "object.__class__")))
    (hn : specialIn K (.builtin "object.__class__") "__get__" = some (some (.builtin "getset_descriptor.__get__"))) (htk : takesIn K (.builtin "object.__class__") = some true) (hm : mroIn K D (.type "object") = some true)
    (X : K.In s.heap) (I : InstAt s.heap x ox D od) (h : Q (some (.ref D)) { s with toks := s.toks + 1 }) : wpAny (model prog w) A (getAttr? (.ref x) "__class__") Q E s := by
  have hf : findObj K D od "__class__" = some (.bind (.builtin "getset_descriptor.__get__") (.builtin "object.__class__")) :=
    findObj_any (by obtain ⟨cd, hc, _⟩ := any_some hdct; rw [hc]; rfl) ha hn htk
  obtain ⟨hp, g, d, t, os⟩ := s
  have T0 := I.type (M := model prog w)
  have T1 := looks_findIn (M := model prog w) X hga
  have T2 := looks_findIn (M := model prog w) X hgt
  have T3 := looks_find (M := model prog w) X I hf
  have sb : Looks (model prog w) hp (isInstance (.ref x) (.type "BaseException")) true := T0.andThen (looks_subIn X hsub)
  have e0 : (false && onTheHeap (Value.builtin "BaseException.__getattribute__")) = false := rfl
  have e2 : (Value.builtin "BaseException.__getattribute__" == Value.builtin "object.__getattribute__") = false := by decide +kernel
  have e1 : (onTheHeap (Value.ref D) && Value.builtin "BaseException.__getattribute__" == Value.builtin "object.__getattribute__") = false := by rw [e2]; rfl
  unfold getAttr? getAttrBy? getAttrBy
  refine wpAny_bind (wpAny_mkText (wpAny_bind (wpAny_attempt (wpAny_holding (wpAny_bind (T0.at (wpAny_bind (T1.at ?_))))))))
  show wpAny _ _ (if (onTheHeap (Value.ref D) && Value.builtin "BaseException.__getattribute__" == Value.builtin "object.__getattribute__") = true then _ else _) _ _ _
  rw [e1, if_neg Bool.false_ne_true]
  unfold getAttrByItsOwn hookBefore
  refine wpAny_bind ?_
  rw [if_pos (show onTheHeap (Value.ref D) = true from rfl)]
  refine T2.at ?_
  refine wpAny_bind (wpAny_attempt (wpAny_holding ?_))
  unfold callGetattribute
  rw [e0, if_neg Bool.false_ne_true]
  unfold boundAndCalled
  rw [PySem.F.excAttr_ValueError.ga.bind (.ref x)]
  refine wpAny_bind (wpAny_pure ?_)
  show wpAny _ _ (call (.builtin "BaseException.__getattribute__") [.ref x, .str "__class__" t]) _ _ _
  refine wpAny_call (codeAny_call_builtin PySem.F.excAttr_ValueError.ga.plain PySem.F.entry_bexc_ga ?_)
  refine @check_slot (model prog w) _ _ ⟨hp, g, d, t + 1, os⟩ "BaseException.__getattribute__" "BaseException" "__getattribute__" (.ref x) [.str "__class__" t] [] _ (by decide +kernel) (by decide +kernel) sb (PySem.F.args_bexc_ga (.ref x) (.str "__class__" t)) ?_
  unfold Builtin.«object.__getattribute__»
  refine wpAny_bind (wpAny_of_eq (a := ((Value.ref x : Value), [Value.str "__class__" t])) (by first | rfl | (simp only [slotArgs]; rfl)) ?_)
  refine wpAny_bind (wpAny_pure (wpAny_bind (T0.at (wpAny_bind (T3.at ?_)))))
  show wpAny _ _ (holding [Value.builtin "object.__class__"] (call (.builtin "getset_descriptor.__get__") [.builtin "object.__class__", .ref x, .ref D]) >>= ret) _ _ _
  refine wpAny_bind (wpAny_holding (wpAny_call (class_get (s := ⟨hp, g, d, t + 1, os⟩) (ox := ox) (od := od) X I hm ?_)))
  refine wpAny_pure ?_
  show wpAny _ _ (handedOut (.ref D)) _ _ _
  rw [handedOut_of (v := .ref D) rfl]
  first
    | exact wpAny_pure (wpAny_pure h)
    | exact wpAny_pure h
    | exact wpAny_pure (wpAny_bind (wpAny_pure (wpAny_pure h)))
theorem kitx_any (C : L2.ExcC K D) : KitX K (.ref x) (.ref D) (fun h => ∃ ox od, InstAt h x ox D od) where
  ty := fun _ _ _ ⟨_, _, I⟩ => I.type
  it := fun _ _ X _ => by
    obtain ⟨cdD, hcD, _⟩ := any_some C.hd
    unfold clsIn at hcD
    split at hcD
    · rename_i c' d' cd' sl' ho
      intro A' Q' E' s' k q
      unfold isType loadHead
      exact wpAny_bind (wpAny_loadPart (k _ _ (X _ _ ho)) (wpAny_pure q))
    · cases hcD
  ne := fun h tp dd its n sl X htp => by
    obtain ⟨cdD, hcD, _⟩ := any_some C.hd
    refine Bool.eq_false_iff.mpr fun q => ?_
    have e : D = tp := Value.ref.inj (beq_iff_eq.mp q)
    subst e
    unfold clsIn at hcD
    split at hcD
    · rename_i c' d' cd' sl' ho
      have z := (X _ _ ho).symm.trans htp
      cases z
    · cases hcD
  ca := fun X ⟨_, _, I⟩ k => class_any C.hg C.hk C.hs C.hd C.ha C.hn C.ht C.hm X I k
end
end GrX
end PySem
namespace Gr
open PySem PySem.Spec PyProof.Rows L2

/-- an error of the class at C stands at a: by its own __init__, with its dict, or of a class without one -/
inductive Err (H : Hp) (a C : Addr) : Prop
  | own (dx : Addr) (fs : List (Str × V)) (h1 : H a = some (exo a C (some dx))) (h2 : H dx = some (exd dx fs))
  | bare (h1 : H a = some (ExO (.ref C) a))
theorem Err.same {H H' : Hp} {a C : Addr} (e : Same H H') (h : Err H a C) : Err H' a C := by
  cases h with
  | own dx fs h1 h2 => exact .own dx fs (e _ _ h1) (e _ _ h2)
  | bare h1 => exact .bare (e _ _ h1)

section
variable {X : Cx} {pins : List (Addr × Obj)} {σ : L2.St} {H : Hp} {s : Shared}
theorem Err.inst (I : Inv X pins σ H s) {a C : Addr} (h : Err H a C) : ∃ ox od, PySem.W.InstAt s.heap a ox C od := by
  cases h with
  | own dx fs h1 h2 =>
    obtain ⟨t1, ho⟩ := exo_at I.hok h1
    obtain ⟨mA, hns, rel⟩ := exd_at I.hok h2
    obtain ⟨od, _, _, hod, _, _⟩ := hns.count (within_of rel)
    exact ⟨_, some od, ho, rfl, rfl, hod⟩
  | bare h1 =>
    obtain ⟨⟨oe, vs, he, hz, hd, _⟩, _, _⟩ := I.hok a _ h1
    obtain ⟨c, d, dt, sl⟩ := oe
    obtain ⟨z1, z2⟩ := hz
    dsimp only at z1 z2 hd
    subst z1 z2 hd
    exact ⟨_, none, he, rfl, rfl, trivial⟩
/-- isinstance(e, c) -/
def rIsX (K : PySem.W.Frag) : List V → Hp → VK → Prop := fun xs H Q => ∃ (a C : Addr) (c : V) (u : Value) (b : Bool), xs = [.ref a, c] ∧ Err H a C ∧ ExcC K C ∧ ClsV c u ∧ PySem.W.kitOne K (.ref C) u = some b ∧ Q (.bl b) H
theorem call_isX : CallR X (.builtin "isinstance") (rIsX X.K) := by
  intro pins s σ H xs us Q I r h
  obtain ⟨a, C, c, u, b, rfl, he, hc, k, e, q⟩ := h
  obtain ⟨u1, u2, rfl, r1, r2⟩ := vals2 r
  cases (show u1 = Value.ref a from r1)
  have e2 := k.eq r2
  subst e2
  exact PySem.W.kia_one (PySem.GrX.kitx_any hc) I.kIn (he.inst I) e (fun z => nomatch z) fun tk => ⟨.bl b, H, I.tok tk, rfl, q⟩
/-- isinstance(e, (c1, c2, ..)) -/
def rIsXT (K : PySem.W.Frag) : List V → Hp → VK → Prop := fun xs H Q => ∃ (a C tp : Addr) (cs : List V) (us : List Value) (b : Bool), xs = [.ref a, .ref tp] ∧ Err H a C ∧ ExcC K C ∧ H tp = some (.tup cs) ∧ Paired ClsV cs us ∧ PySem.W.kitAny K (.ref C) us = some b ∧ Q (.bl b) H
theorem call_isXT : CallR X (.builtin "isinstance") (rIsXT X.K) := by
  intro pins s σ H xs us Q I r h
  obtain ⟨a, C, tp, cs, ws, b, rfl, he, hc, hT, k, e, q⟩ := h
  obtain ⟨u1, u2, rfl, r1, r2⟩ := vals2 r
  cases (show u1 = Value.ref a from r1)
  cases (show u2 = Value.ref tp from r2)
  obtain ⟨_, its, rv, o, h1, h2, n, h3⟩ := (show ObjOk X.prog X.w H s.heap tp (.tup cs) from I.hok tp _ hT)
  have e3 := ClsV.all k rv
  subst e3
  obtain ⟨oc, od, dt, sl⟩ := o
  simp only at h2 h3
  subst h2 h3
  exact PySem.W.kia_tup (PySem.GrX.kitx_any hc) I.kIn (he.inst I) h1 e (fun z => nomatch z) fun tk => ⟨.bl b, H, I.tok tk, rfl, q⟩

/-- e.f of an error that is kept -/
def tXfv (K : PySem.W.Frag) (f : Str) (te : TE) : TE := fun σ H Q => te σ H fun x H1 => ∃ (a C dx : Addr) (fs : List (Str × V)) (v : V), x = .ref a ∧ H1 a = some (exo a C (some dx)) ∧ H1 dx = some (exd dx fs) ∧
  XfC K C ∧ PySem.W.findIn K (.ref C) f = some none ∧ fs.lookup f = some v ∧ Q v H1
theorem pe_xfv {e : Expr} {te : TE} {pos : Pos} {n : Str} (he : PE X e te) (hb : attributeBase e n X.env (eval e X.env) = eval e X.env := by rfl) : PE X (.Attribute e n pos) (tXfv X.K n te) := by
  refine ⟨fun pins s σ H Q I h => attr_of hb (thn (he.run pins s σ H _ I h) fun u s1 hh => ?_)⟩
  obtain ⟨x, H1, I1, rx, a, C, dx, fs, v, ex, ea, ed, T, hno, l, q⟩ := hh
  subst ex
  obtain rfl : u = Value.ref a := rx
  obtain ⟨t1, ho⟩ := exo_at I1.hok ea
  obtain ⟨mA, hns, hr⟩ := exd_at I1.hok ed
  obtain ⟨od, hod, hl⟩ := lookIn_ns hns
  obtain ⟨w', hw, rw'⟩ := RelO.some_of (v := v) (o := mA n) (by rw [← l]; exact hr n)
  exact HandSPX.exc_get I1.kIn ⟨ho, rfl, rfl, hod⟩ T.ga T.gg T.exC (PySem.W.findObj_own T.hdC hno rfl (by rw [hl, hw])) (handed_of rw') ⟨v, H1, I1.tok _, rw', q⟩
/-- C(), an own class without __init__ -/
theorem pe_exc0 {C : Addr} {bmB : List Value} {B newId initId : String} {x : Str} {p pos : Pos} (F : ExcBaseFacts B newId initId bmB) (q : PySem.W.excIn X.K C bmB newId = true) (gC : X.mg x = some (.ref C)) (kC : PySem.W.keepIn X.K (.ref C) = true) (hg : Gl X x)
    (hdb : (x == ("__debug__" : Str)) = false := by decide) :
    PE X (.Call (.Name x p) [] [] pos) (fun σ H Q => ∀ a, H a = none → Q (.ref a) (upd H a (ExO (.ref C) a))) := by
  refine ⟨fun pins s σ H Q I h => wpAny_Call_Name_kw (ld_glob I hg gC (PySem.W.callWith_K0 I.kIn kC ?_) hdb)⟩
  show wpAny _ _ (call (.ref C) []) _ _ _
  obtain ⟨bm, N, nm, qn, bs, hdct, sn, sub, ab, col, dd, k0, k1, k2, k3, k5, mN, hC, hN, hni, T⟩ := exc_obj I.kIn q
  obtain ⟨hp, g, d, t, os⟩ := s
  refine wpAny_call_exc_subT F T hC hN hni (fun h' a hm => ?_) (by show 0 ≤ sizeLine; exact Nat.zero_le _)
  have hn : H a = none := I.hok.gone hm.new
  obtain ⟨t, ht, _, _⟩ := hm.there
  exact ⟨.ref a, upd H a (ExO (.ref C) a), I.laidN hm.keeps hm.new hn (exO_ok ht ⟨rfl, rfl⟩ rfl rfl rfl (show 4 < 6 by decide)), rfl, h a hn⟩
end
end Gr

set_option Elab.async false
set_option maxRecDepth 100000
set_option maxHeartbeats 4000000
set_option linter.all false
/-! Ours: the law's call, by a promise for calls where no repr is under way. -/
namespace Gr
open PySem PySem.Spec PyProof.Rows L2

/-- the law's own call behind the top -/
theorem law_callQ {P : Program} {w : World} {K : PySem.W.Frag} {mg mb : Str → Option Value} {k : Nat} {fa a : Addr} {fd : FuncData} {x : Str} {sp : Sp} {s₁ : Shared} {vs : List Value} {ns : List Int}
    (KX : K.In s₁.heap) (hns : s₁.heap.Ns mainGlobals mg) (hb : s₁.heap.Ns builtinsNs mb) (hbb : ∀ x : Str, x ≠ "__name__" → mb x = bootBuiltins x) (hlim : s₁.heap.NoLimit) (hg : s₁.gens = #[])
    (ha : s₁.heap.get? a = some { cls := .type "list", data := .seq vs.toArray }) (hi : IntsAre vs ns) (hl : ns.length ≤ sizeLine) (hr : Room k callerA)
    (F : ∀ base : Heap, K.In base → base.Ns mainGlobals mg → FnQ P w K mg base CX0 k fa fd [x] sp) (hbind : ∀ (s : Shared) (u : Value), BindsTo s fd ⟨[u], []⟩ [(x, u)])
    (hsp : ∀ H : Hp, Only H → SqL K H a (ns.map V.int) → sp [.ref a] H (fun v _ => v = .bl true) fun _ _ _ => False) :
    codeAny (model P w) callerA (.call (.ref fa) ⟨[.ref a], []⟩) (fun r s' => r = .ok (.ret (.bool true)) ∧ OldK s₁.heap s'.heap ∧ s'.os = s₁.os ∧ AllBare s'.gens) s₁ := by
  have rv := vals_ints hi
  have lenV := hi.length
  have core : ∀ H : Hp, Only H → SqL K H a (ns.map V.int) → HOk P w H s₁.heap → (∀ b, H b ≠ none → b = a) → (H a ≠ none → K.lookup a = none) →
      codeAny (model P w) callerA (.call (.ref fa) ⟨[.ref a], []⟩) (fun r s' => r = .ok (.ret (.bool true)) ∧ OldK s₁.heap s'.heap ∧ s'.os = s₁.os ∧ AllBare s'.gens) s₁ := by
    intro H hO hS hok hA hK
    have isA : ∀ {b : Addr} {u : HO}, H b = some u → b = a := fun {b u} q => hA b fun z => by
      rw [q] at z
      cases z
    have seen : ∀ {b : Addr} {o : Obj}, s₁.heap.get? b = some o → H b = none → (hidT s₁.heap H).get? b = some o := fun e n => hidT_get e n
    have noDict : ∀ {b : Addr} {o : Obj} {es : Array DictEntry} {ep : Nat}, s₁.heap.get? b = some o → o.data = .dict es ep → H b = none := fun {b o es ep} e d => by
      cases q : H b with
      | none => rfl
      | some u =>
        have e' := isA q
        subst e'
        rw [ha] at e
        cases e
        cases (show Data.seq vs.toArray _ = Data.dict es ep from d)
    have nsK : ∀ {b : Addr} {m : Str → Option Value}, s₁.heap.Ns b m → (hidT s₁.heap H).Ns b m := fun {b m} ⟨o, es, ep, e, d, r⟩ => ⟨o, es, ep, seen e (noDict e d), d, r⟩
    have hKb : K.In (hidT s₁.heap H) := fun b o e => seen (KX b o e) (by
      cases q : H b with
      | none => rfl
      | some u =>
        have e' := isA q
        subst e'
        rw [hK (by rw [q]; simp)] at e
        cases e)
    have hM : Mod K mg (hidT s₁.heap H) := ⟨hKb, nsK hns, ⟨mb, nsK hb, hbb⟩, let ⟨mc, h1, h2⟩ := hlim; ⟨mc, nsK h1, h2⟩⟩
    have noF : ∀ b, b ∉ frs ([] : List Env) := fun b z => nomatch z
    have e0 : Env0 P w K mg (hidT s₁.heap H) callerA [] s₁ H := ⟨rfl, hM, fun b o e => of_hidT e, Nat.le_of_eq (hidT_size _ _), trivial, fun b z => absurd z (noF b), hok, .of_eq hg⟩
    refine codeAny_mono ((F _ hKb (nsK hns)).run callerA [] s₁ H ⟨[.ref a], []⟩ [.ref a] [.ref a] _ _ rfl hr e0 (hbind s₁ (.ref a)) (.cons rfl .nil) (hsp H hO hS)) fun r s' h => ?_
    match r, h with
    | .error e, h => exact False.elim h
    | .ok (.ret u), h =>
      obtain ⟨v, H', os, bare, un, hok', r', q⟩ := h
      have q' : v = .bl true := q
      subst q'
      obtain rfl : u = Value.bool true := r'
      refine ⟨rfl, OldK.of_keep fun b o e => ?_, os, bare⟩
      cases q : H b with
      | none => exact un.keep b o e q (noF b) (fun z => nomatch z)
      | some u =>
        rcases hO b with z | ⟨ob, xs, z⟩
        · rw [q] at z
          cases z
        · obtain ⟨e1, _⟩ := hok b _ z
          obtain ⟨e2, _⟩ := hok' b _ (un.frzs b ob _ z)
          rw [e] at e1
          cases e1
          exact e2
  cases hk : K.lookup a with
  | some o =>
    have e := KX a o hk
    rw [ha] at e
    cases e
    exact core (fun _ => none) (fun _ => .inl rfl) (.inr ⟨_, vs.toArray, _, hk, rfl, rfl, rfl, by rw [List.size_toArray, lenV]; exact hl, by simpa using rv⟩)
      (fun b u z => nomatch z) (fun b z => absurd rfl z) fun z => absurd rfl z
  | none =>
    have at1 : ∀ {b : Addr} {u : HO}, (if b = a then some (HO.frz { cls := .type "list", data := .seq vs.toArray } (.lst (ns.map V.int))) else none) = some u →
        b = a ∧ u = HO.frz { cls := .type "list", data := .seq vs.toArray } (.lst (ns.map V.int)) := fun {b u} z => by
      by_cases hb : b = a
      · rw [if_pos hb] at z
        exact ⟨hb, (Option.some.inj z).symm⟩
      · rw [if_neg hb] at z
        cases z
    refine core (fun b => if b = a then some (.frz { cls := .type "list", data := .seq vs.toArray } (.lst (ns.map V.int))) else none) (fun b => ?_)
      (.inl (.inr ⟨{ cls := .type "list", data := .seq vs.toArray }, if_pos rfl⟩)) (fun b u z => ?_) (fun b z => ?_) fun _ => hk
    · by_cases hb : b = a
      · exact .inr ⟨_, _, if_pos hb⟩
      · exact .inl (if_neg hb)
    · obtain ⟨rfl, rfl⟩ := at1 z
      exact ⟨ha, by rw [List.length_map]; exact hl, vs, _, rv, ha⟩
    · by_cases hb : b = a
      · exact hb
      · exact absurd (if_neg hb) z
/-- what the head leaves, from such a promise -/
theorem walk_ofQ {l : PySem.W.OpenLaw} {n k : Nat} {q : Program} {loose : List Str} {XP : (Str → Option Value) → Heap → Prop} {YP : World → Heap → Prop} {d : DefRec} {K : Params → PySem.W.Frag} {sp : PySem.W.Frag → Sp} {x : Str}
    (hn : l.most = some n) (hn2 : n ≤ sizeLine) (hdf : d.params.defaults = []) (hr : Room k callerA)
    (hY : ∀ (w : World) (h : Heap), YP w h → (K w.params).In h)
    (F : ∀ (w : World) (mg : Str → Option Value) (fa : Addr) (h : Heap), (K w.params).In h → h.Ns mainGlobals mg → mg d.name = some (.ref fa) →
      ∃ fd : FuncData, (∀ (s : Shared) (u : Value), BindsTo s fd ⟨[u], []⟩ [(x, u)]) ∧
        ∀ base : Heap, (K w.params).In base → base.Ns mainGlobals mg → FnQ l.prog w (K w.params) mg base CX0 k fa fd [x] (sp (K w.params)))
    (hsp : ∀ (K : PySem.W.Frag) (H : Hp) (a : Addr) (ns : List Int), ns.length ≤ n → Only H → SqL K H a (ns.map V.int) → sp K [.ref a] H (fun v _ => v = .bl true) fun _ _ _ => False) :
    PySem.W.WalkO q loose XP YP l.row.toRowW d [] (fun f vs => PySem.call f vs) := by
  refine Att.attach_call hn hdf fun w s₀ s₁ mg mb fa o pm cd doc a vs ns G Y ho hd hcd hmg hobj hints hlen hg => ?_
  have KX := hY w _ Y
  obtain ⟨fd, hb, hF⟩ := F w mg fa _ KX G.T.g hmg
  exact law_callQ KX G.T.g G.T.b G.T.builtins G.T.nolimit hg hobj hints (Nat.le_trans hlen hn2) hr hF hb fun H hO hS => hsp (K w.params) H a ns hlen hO hS
end Gr

set_option Elab.async false
set_option maxRecDepth 100000
set_option maxHeartbeats 4000000
set_option linter.all false
/-! Ours: own error classes whose __init__ keeps one value; lists of such errors; isinstance of an error against a list of classes. -/
namespace Gr
open PySem PySem.Spec PyProof.Rows L2

section
variable {X : Cx}
theorem peImp {e : Expr} {t t' : TE} (h : PE X e t) (k : ∀ σ H Q, t' σ H Q → t σ H Q) : PE X e t' := ⟨fun pins s σ H Q I q => h.run pins s σ H Q I (k σ H Q q)⟩
theorem paImp {es : List Expr} {t t' : TA} (h : PA X es t) (k : ∀ σ H Q, t' σ H Q → t σ H Q) : PA X es t' := ⟨fun pos pins s σ H Q I q => h.run pos pins s σ H Q I (k σ H Q q)⟩
end

/-! ### the text of such an __init__ -/
def iArgs (f : Str) (p1 p2 : Pos) : Arguments := { posonlyargs := [], args := [{ arg := "self", annotation := none, pos := p1 }, { arg := f, annotation := none, pos := p2 }], vararg := none, kwonlyargs := [], kw_defaults := [], kwarg := none, defaults := [] }
def iBody (f : Str) (q1 q2 q3 q4 : Pos) : List Stmt := [.Assign [.Attribute (.Name "self" q1) f q2] (.Name f q3) q4]
def iScope (f : Str) : Scope := { kind := .function, names := [(PySem.Str.ofString "self", .local), (f, .local)], isGenerator := false, isCoroutine := false, more := [] }
def Fld (f : Str) : Prop := f = "given" ∨ f = "index"

/-- the __init__ of the class at C -/
structure InitAt (K : PySem.W.Frag) (C fI : Addr) (fd : FuncData) (f : Str) : Prop where
  iC : PySem.W.findIn K (.ref C) "__init__" = some (some (.ref fI))
  tI : PySem.W.typeIn K (.ref fI) = some (.type "function")
  ex : ∃ (q : Str) (oc : Value) (od : Option Addr) (doc pm : Value) (an : Option Addr) (cdv ct : Value) (osl : Array (Option Value)) (p1 p2 q1 q2 q3 q4 : Pos),
    fd = PySem.W.fnOf "__init__" q (iArgs f p1 p2) (iBody f q1 q2 q3 q4) (iScope f) .none .none doc pm an cdv ct ∧ K.lookup fI = some ⟨oc, od, .func fd, osl⟩ ∧ PySem.W.codeIn K cdv q = true
/-- what the written part says of such a class -/
structure ErrC (K : PySem.W.Frag) (mg : Str → Option Value) (nm f : Str) (C fI : Addr) (fd : FuncData) : Prop where
  gC : mg nm = some (.ref C)
  oex : OexC K C
  xf : XfC K C
  exc : ExcC K C
  nof : PySem.W.findIn K (.ref C) f = some none
  ini : InitAt K C fI fd f
  fld : Fld f

def spInit (K : PySem.W.Frag) (f : Str) : Sp := fun vs H Q _ => ∃ (a C : Addr) (y : V), vs = [.ref a, y] ∧ OexC K C ∧ PySem.W.findIn K (.ref C) f = some none ∧ H a = some (exo a C none) ∧
  ∀ dx, H dx = none → dx ≠ a → Q .non (upd (upd H dx (exd dx [(f, y)])) a (exo a C (some dx)))
section
variable {P : Program} {w : World} {K : PySem.W.Frag} {mg : Str → Option Value} {base : Heap}
theorem scInit {f : Str} (hf : Fld f) : FnScope ["self", f] ["self", f] (iScope f) := by
  rcases hf with rfl | rfl <;> exact ⟨rfl, rfl, rfl, by decide +kernel, rfl, by decide +kernel, by decide +kernel⟩
theorem InitAt.ok {C fI : Addr} {fd : FuncData} {f : Str} (I : InitAt K C fI fd f) (hf : Fld f) : FnOk P w K mg base CX0 1 fI fd ["self", f] (spInit K f) := by
  obtain ⟨q, oc, od, doc, pm, an, cdv, ct, osl, p1, p2, q1, q2, q3, q4, rfl, lk, hcd⟩ := I.ex
  refine fn_of lk hcd (scInit hf) (fun vs H Q E h => ?_) (fun A outer s H vs Q E hr h => ?_)
  · obtain ⟨a, C, y, rfl, _⟩ := h
    rfl
  · obtain ⟨a, C, y, rfl, T, hno, ha, k⟩ := h
    rcases hf with rfl | rfl
    · refine ⟨_, PSs.nox (pss_one (ps_ost (pv 0) (pv 1))), ?_⟩
      exact ⟨_, rfl, _, rfl, a, C, rfl, T, hno, .inl ⟨ha, k⟩⟩
    · refine ⟨_, PSs.nox (pss_one (ps_ost (pv 0) (pv 1))), ?_⟩
      exact ⟨_, rfl, _, rfl, a, C, rfl, T, hno, .inl ⟨ha, k⟩⟩
theorem InitAt.bnd {C fI : Addr} {fd : FuncData} {f : Str} (I : InitAt K C fI fd f) (hf : Fld f) : Bnd1 K fd ["self", f] f := by
  obtain ⟨q, oc, od, doc, pm, an, cdv, ct, osl, p1, p2, q1, q2, q3, q4, rfl, lk, hcd⟩ := I.ex
  rcases hf with rfl | rfl <;> exact ⟨fun s self u _ => .of_eq rfl, fun s self u _ => .of_eq rfl⟩
end

/-! ### errors that are kept -/
/-- at a: an error of the class at C that keeps y under f -/
def ErrV (H : Hp) (a C : Addr) (f : Str) (y : V) : Prop := ∃ dx, H a = some (exo a C (some dx)) ∧ H dx = some (exd dx [(f, y)])
theorem ErrV.same {H H' : Hp} {a C : Addr} {f : Str} {y : V} (e : Same H H') (h : ErrV H a C f y) : ErrV H' a C f y := by
  obtain ⟨dx, h1, h2⟩ := h
  exact ⟨dx, e _ _ h1, e _ _ h2⟩
theorem ErrV.err {H : Hp} {a C : Addr} {f : Str} {y : V} (h : ErrV H a C f y) : Err H a C := by
  obtain ⟨dx, h1, h2⟩ := h
  exact .own dx _ h1 h2
theorem same_init {H : Hp} {a dx : Addr} {o1 o2 o3 : HO} (ha : H a = none) (hd : upd H a o1 dx = none) : Same H (upd (upd (upd H a o1) dx o2) a o3) := fun b u e => by
  have n1 : b ≠ a := ne_of_none e ha
  have n2 : b ≠ dx := fun z => by
    rw [← z, upd_ne n1, e] at hd
    cases hd
  rw [upd_ne n1, upd_ne n2, upd_ne n1]
  exact e

section
variable {X : Cx} {nm f : Str} {C fI : Addr} {fd : FuncData} {p pos kpos ip : Pos} {i : Nat} {v : Str}
/-- C(v), v in slot i -/
def tErr (C : Addr) (f : Str) (i : Nat) : TE := fun σ H Q => ∃ y, σ[i]? = some (some y) ∧ ∀ a H2, Same H H2 → ErrV H2 a C f y → Q (.ref a) H2
theorem tErr_ok {σ : L2.St} {H : Hp} {Q : VK} (T : ErrC X.K X.mg nm f C fI fd) (h : tErr C f i σ H Q) : tExv C (spInit X.K f) (tVar i) σ H Q := by
  obtain ⟨y, hy, k⟩ := h
  refine ⟨y, hy, fun a ha => ⟨a, C, y, rfl, T.oex, T.nof, upd_same, fun dx hd nd => ⟨rfl, k a _ (same_init ha hd) ⟨dx, upd_same, ?_⟩⟩⟩⟩
  rw [upd_ne nd, upd_same]
theorem pe_err (T : ErrC X.K X.mg nm f C fI fd) (hr : Room 2 X.A) (hg : Gl X nm) (he : PE X (.Name v ip) (tVar i)) (hdb : (nm == ("__debug__" : Str)) = false := by decide) :
    PE X (.Call (.Name nm p) [.Name v ip] [] pos) (tErr C f i) :=
  peImp (pe_exv T.oex T.ini.iC T.ini.tI (T.ini.ok T.fld) hr pass0 (T.ini.bnd T.fld) hg T.gC he hdb) fun _ _ _ q => tErr_ok T q
theorem pe_errk (T : ErrC X.K X.mg nm f C fI fd) (hr : Room 2 X.A) (hg : Gl X nm) (he : PE X (.Name v ip) (tVar i)) (hdb : (nm == ("__debug__" : Str)) = false := by decide) :
    PE X (.Call (.Name nm p) [] [⟨some f, .Name v ip, kpos⟩] pos) (tErr C f i) :=
  peImp (pe_exk T.oex T.ini.iC T.ini.tI (T.ini.ok T.fld) hr pass0 (T.ini.bnd T.fld) hg T.gC he hdb) fun _ _ _ q => tErr_ok T q
/-- C1(v), C2(v), .. -/
def tErrs (cs : List (Addr × Str)) (i : Nat) : TA := fun σ H Q => ∃ y, σ[i]? = some (some y) ∧ ∀ as H2, Same H H2 → Paired (fun c a => ErrV H2 a c.1 c.2 y) cs as → Q (as.map V.ref) H2
theorem pa_errs0 : PA X [] (tErrs [] i) := paImp pa_nil fun σ H Q ⟨y, hy, k⟩ => k [] H (Same.refl H) .nil
theorem pairedErr {H H' : Hp} {y : V} (e : Same H H') : ∀ {cs : List (Addr × Str)} {as : List Addr}, Paired (fun c a => ErrV H a c.1 c.2 y) cs as → Paired (fun c a => ErrV H' a c.1 c.2 y) cs as
  | _, _, .nil => .nil
  | _, _, .cons h t => .cons (h.same e) (pairedErr e t)
theorem pa_errs {e : Expr} {es : List Expr} {cs : List (Addr × Str)} (he : PE X e (tErr C f i)) (hr : PA X es (tErrs cs i)) (hs : starEach (e :: es) X.env = (false, eval e X.env) :: starEach es X.env := by rfl) : PA X (e :: es) (tErrs ((C, f) :: cs) i) :=
  paImp (pa_cons he hr hs) fun σ H Q ⟨y, hy, k⟩ => ⟨y, hy, fun a H1 s1 e1 => ⟨y, hy, fun as H2 s2 pr => k (a :: as) H2 (s1.trans s2) (.cons (e1.same s2) pr)⟩⟩
end

/-! ### isinstance of one error against many classes -/
section
variable {X : Cx} {nm : Str} {C : Addr} {p pos ip np : Pos} {i : Nat} {v : Str}
/-- whether the error is of each of the classes at cs -/
def kinds (C : Addr) (cs : List Addr) : List V := cs.map fun c => V.bl (decide (C = c))
def tKinds (K : PySem.W.Frag) (cs : List Addr) (i : Nat) : TA := fun σ H Q => ∃ a C, σ[i]? = some (some (.ref a)) ∧ Err H a C ∧ ExcC K C ∧ (∀ c ∈ cs, PySem.W.kitOne K (.ref C) (.ref c) = some (decide (C = c))) ∧ Q (kinds C cs) H
theorem pa_kinds0 : PA X [] (tKinds X.K [] i) := paImp pa_nil fun σ H Q ⟨a, C, _, _, _, _, k⟩ => k
theorem pa_kinds {es : List Expr} {cs : List Addr} (hI : X.mg "isinstance" = none) (hgI : Gl X "isinstance") (gC : X.mg nm = some (.ref C)) (hg : Gl X nm) (he : PE X (.Name v ip) (tVar i)) (hr : PA X es (tKinds X.K cs i))
    (hdb : (nm == ("__debug__" : Str)) = false := by decide)
    (hs : starEach (.Call (.Name "isinstance" p) [.Name v ip, .Name nm np] [] pos :: es) X.env = (false, eval (.Call (.Name "isinstance" p) [.Name v ip, .Name nm np] [] pos) X.env) :: starEach es X.env := by rfl) :
    PA X (.Call (.Name "isinstance" p) [.Name v ip, .Name nm np] [] pos :: es) (tKinds X.K (C :: cs) i) :=
  paImp (pa_cons (pe_callB call_isX hgI hI boot_isinstance (pa_cons he (pa_cons (pe_glob hg gC (v := .ref C) rfl hdb) pa_nil))) hr hs) fun σ H Q ⟨a, D, hσ, hE, hX, hk, k⟩ =>
    ⟨_, hσ, a, D, _, _, _, rfl, hE, hX, .own C, hk C List.mem_cons_self, a, D, hσ, hE, hX, fun c hc => hk c (List.mem_cons_of_mem _ hc), k⟩
end
end Gr

set_option Elab.async false
set_option maxRecDepth 100000
set_option maxHeartbeats 4000000
set_option linter.all false
/-! Ours: try with several clauses «except C as n», the same n in each. -/
namespace Gr
open PySem PySem.Spec PyProof.Rows L2
/-- an end behind the suite: the name of the clause is gone -/
def Gone (i : Nat) (D : Ends) : Ends := { nx := fun σ' H' => D.nx (σ'.set i none) H', rt := D.rt, bk := fun σ' H' => D.bk (σ'.set i none) H', ct := fun σ' H' => D.ct (σ'.set i none) H' }
def wManyAs (K : PySem.W.Frag) (i : Nat) (Wout : WX) (D : Ends) : List (Value × (Addr → Value → Option Addr → TS)) → WX
  | [] => Wout
  | (c, ts) :: r => fun cls d σ H => ∃ b, PySem.W.exmOne K cls c = some b ∧ (b = true → ∀ a, H a = none → ts a cls d (Gone i D) (σ.set i (some (.ref a))) H) ∧ (b = false → wManyAs K i Wout D r cls d σ H)
inductive HdsAs (X : Cx) (n : Str) : List ExceptHandler → List (Value × (Addr → Value → Option Addr → TS)) → Prop
  | nil : HdsAs X n [] []
  | cons {x : Str} {c : Value} {ts : Addr → Value → Option Addr → TS} {b₀ : Stmt} {suite : List Stmt} {np pos' : Pos} {hds : List ExceptHandler} {l : List (Value × (Addr → Value → Option Addr → TS))} (hc : Names X x c)
      (hsu : ∀ (a : Addr) (oe : Obj) (cls : Value) (d : Option Addr) (pn : List (Addr × Obj)), Zc cls d oe → (∃ vs, oe.data = .fields vs) → PSs (X.suite a ((a, oe) :: pn)) (b₀ :: suite) (ts a cls d)) (r : HdsAs X n hds l) :
      HdsAs X n (.ExceptHandler (some (.Name x np)) (some n) (b₀ :: suite) pos' :: hds) ((c, ts) :: l)
section
variable {X : Cx} {body : List Stmt} {h₀ : ExceptHandler} {hds : List ExceptHandler} {l : List (Value × (Addr → Value → Option Addr → TS))} {pos : Pos} {tb : WX → TS} {Wout : WX} {n : Str} {i : Nat}
theorem ps_try_manyAs (hs : X.stack = X.env :: X.outer) (hf : X.env.frame = some X.env.locals) (hN : X.N.Nodup) (hi : X.N[i]? = some n) (hln : X.env.kindOf n = some .local) (tk : Takes X Wout)
    (hb : ∀ (W : WX) (pn : List (Addr × Obj)) (xe : Value → Shared → Prop), Takes (X.tr pn xe) W → PassesOwn (model X.prog X.w) X.A X.env xe → PSs (X.tr pn xe) body (tb W))
    (hh : HdsAs X n (h₀ :: hds) l) : PS X (.Try body (h₀ :: hds) [] [] pos) (fun D σ H => tb (wManyAs X.K i Wout D l) D σ H) := by
  refine ⟨fun pins s σ H D I h => ?_⟩
  have ok := I.ok
  have hfr : X.A.frames = some (X.env :: X.outer) := by rw [ok.frames, hs]
  have hloc : Loc X.env.scope n := .inl hln
  refine wpAny_Try_except ?_
  refine wpAny_mono ((hb (wManyAs X.K i Wout D l) (X.pn ++ pins) (fun e s₁ => wpAny (model X.prog X.w) X.A (noteFrame e X.env) (fun _ s₂ => wpAny (model X.prog X.w) X.A (setFlight e none) (fun _ s₃ =>
    wpAny (model X.prog X.w) X.A (handleBy e X.env (h₀ :: hds)) (SP X pins D) X.xe s₃) X.xe s₂) X.xe s₁) (fun u s' xx => ?_) PassesOwn.looking).run [] s σ H D (I.toTry _) h) (fun f s1 hsp => ?_) (fun e s1 he => he)
  · obtain ⟨a, B, sI, pins', σ', H', cls, d, rfl, J', nb, up, sky, na, os, ag, w⟩ := xx
    have J : Inv X pins σ' H' sI := J'.ofTry ok
    have sky2 : Sky B (X.env :: X.outer) a (Zc cls d) X.env.locals s'.heap := by rw [← hs]; exact sky
    show wpAny (model X.prog X.w) X.A (noteFrame (.ref a) X.env) _ _ _
    refine Sky.land Zc.steady hfr hf sky2 fun h3 fl3 up3 => ?_
    have J3 : Inv X pins σ' H' { s' with heap := h3 } := J.landed nb fl3.1 (up.trans up3) os ag
    obtain ⟨oe3, vs3, he3, hz3, hd3⟩ := fl3.there
    have nfr : a ∉ frs (X.env :: X.outer) := fun hm => by
      obtain ⟨_, o', e', hnf⟩ := fl3.2.2.1.mem hm
      rw [he3] at e'
      cases e'
      exact hnf _ hd3
    have nL : a ≠ X.env.locals := fun z => nfr (List.mem_filterMap.mpr ⟨X.env, List.mem_cons_self, by rw [hf, z]⟩)
    have nF : a ∉ X.fs := fun hm => by
      obtain ⟨e, he, q⟩ := List.mem_filterMap.mp hm
      exact nfr (List.mem_filterMap.mpr ⟨e, List.mem_cons_of_mem _ he, q⟩)
    have S3 := J3.suite he3 hd3 na nL nF
    have go : ∀ {hds' : List ExceptHandler} {l' : List (Value × (Addr → Value → Option Addr → TS))}, HdsAs X n hds' l' → wManyAs X.K i Wout D l' cls d σ' H' →
        wpAny (model X.prog X.w) X.A (handleBy (.ref a) X.env hds') (SP X pins D) X.xe { s' with heap := h3 } := by
      intro hds' l' hk
      induction hk with
      | nil =>
        intro w
        refine wpAny_handleBy_nil ?_
        obtain ⟨k1, k2, k3, oe, vs, T, oT, ts', he, hz, hd, h1, hr⟩ := id fl3
        unfold PySem.passOn
        refine wpAny_bind (wpAny_field he hd h1 ?_)
        rw [if_neg (show ¬ ((Value.ref T == Value.none) = true) from by simp)]
        have fin : wpAny (model X.prog X.w) X.A (setFlight (.ref a) X.env.frame) (fun _ s4 => wpAny (model X.prog X.w) X.A (throw (.ref a) : Sem Flow) (SP X pins D) X.xe s4) X.xe { s' with heap := h3 } := by
          rw [hf]
          refine HandSPX.setFlight_upZ fl3 fun h4 hh4 up4 => wpAny_throw (tk _ _ ?_)
          exact ⟨a, B, sI, pins, σ', H', cls, d, rfl, J, nb, (up.trans up3).trans up4, .inr (.inr (by rw [hs]; exact hh4)), na, os, ag, w⟩
        first
          | exact wpAny_bind (wpAny_pure (wpAny_bind fin))
          | exact wpAny_bind fin
      | @cons x c ts b₀ suite np pos' hds2 l2 hc hsu r ih =>
        intro w
        obtain ⟨b, hb1, hyes, hno⟩ := w
        refine wpAny_handleBy_cons (codeAny_handlers_test ?_) (by intro q; cases q)
        have LT : PySem.W.Looks (model X.prog X.w) h3 (typeOf (.ref a)) cls := fun A Q E s k q => wpAny_typeOf_ref (k _ _ he3) (by rw [hz3.1]; exact q)
        have LM := PySem.W.exm_one (M := model X.prog X.w) (J3.kIn) LT hb1
        have test : ∀ {Q : Value → Shared → Prop} {E : Value → Shared → Prop}, Q c { s' with heap := h3 } → wpAny (model X.prog X.w) (X.A.mark (some (.ref a))) (eval (.Name x np) X.env) Q E { s' with heap := h3 } := fun {Q E} q => by
          obtain ⟨hg, hdbg, hm | ⟨hm, hv, hnn⟩⟩ := hc
          · exact ld_glob (X := X.suite a ((a, oe3) :: (X.pn ++ pins))) S3 hg hm q hdbg
          · exact ld_blt (X := X.suite a ((a, oe3) :: (X.pn ++ pins))) S3 hg hm hv q hnn hdbg
        refine test (LM.here ?_)
        cases b with
        | true =>
          refine codeAny_handlers_suite_as ?_
          refine HandSPX.lands_againZ fl3 fun h4 fl4 up4 => ?_
          have J4 : Inv X pins σ' H' { s' with heap := h4 } := J.landed nb fl4.1 ((up.trans up3).trans up4) os ag
          obtain ⟨oe4, vs4, he4, hz4, hd4⟩ := fl4.there
          have S4 := J4.suite he4 hd4 na nL nF
          refine store_ok (X := X.suite a ((a, oe4) :: (X.pn ++ pins))) (v := .ref a) S4 hN hi hloc rfl (fun s5 S5 => ?_) (.inr hln)
          refine wpAny_mono ((hsu a oe4 cls d (X.pn ++ pins) hz4 ⟨_, hd4⟩).run [] s5 _ H' _ S5 (hyes rfl a na)) (fun f s6 hsp => ?_) (fun _ _ z => False.elim z)
          have last : ∀ {σ6 : L2.St} {H6 : Hp} {Q : Shared → Prop}, Inv (X.suite a ((a, oe4) :: (X.pn ++ pins))) [] σ6 H6 s6 → (∀ s7, Inv X pins (σ6.set i none) H6 s7 → Q s7) →
              wpAny (model X.prog X.w) X.A (do bindName X.env n .none; unbindBehindTheSuite X.env n pos') (fun _ s7 => Q s7) X.xe s6 := fun {σ6 H6 Q} S6 hq => gone_ok (S6.unsuite ok) hN hi hln hq
          match f, hsp with
          | .next, ⟨σ6, H6, S6, q6⟩ => exact last S6 fun s7 J7 => ⟨_, _, J7, q6⟩
          | .brk, ⟨σ6, H6, S6, q6⟩ => exact last S6 fun s7 J7 => ⟨_, _, J7, q6⟩
          | .cont, ⟨σ6, H6, S6, q6⟩ => exact last S6 fun s7 J7 => ⟨_, _, J7, q6⟩
          | .ret u, ⟨v6, σ6, H6, S6, r6, q6⟩ => exact last S6 fun s7 J7 => ⟨_, _, _, J7, r6, q6⟩
        | false =>
          show wpAny _ X.A (handleBy (.ref a) X.env hds2) _ _ _
          exact ih (hno rfl)
    exact go hh w
  · match f, hsp with
    | .next, ⟨σ', H', J', q⟩ => exact wpAny_execs_nil ⟨σ', H', J'.ofTry ok, q⟩
    | .brk, ⟨σ', H', J', q⟩ => exact ⟨σ', H', J'.ofTry ok, q⟩
    | .cont, ⟨σ', H', J', q⟩ => exact ⟨σ', H', J'.ofTry ok, q⟩
    | .ret u, ⟨v, σ', H', J', r, q⟩ => exact ⟨v, σ', H', J'.ofTry ok, r, q⟩
/-- raise C(), an own class without __init__ -/
theorem pmk_exc0 {C : Addr} {bmB : List Value} {B newId initId : String} {x : Str} {p pos : Pos} (F : ExcBaseFacts B newId initId bmB) (q : PySem.W.excIn X.K C bmB newId = true) (gC : X.mg x = some (.ref C)) (kC : PySem.W.keepIn X.K (.ref C) = true) (r : Raises X (.ref C)) (hg : Gl X x)
    (hdb : (x == ("__debug__" : Str)) = false := by decide) : PMk X (.Call (.Name x p) [] [] pos) (fun _ H Q => Q (.ref C) none H) := by
  intro pins s σ H Q I h
  refine wpAny_Call_Name_kw (ld_glob I hg gC (PySem.W.callWith_K0 I.kIn kC ?_) hdb)
  show wpAny _ _ (call (.ref C) []) _ _ _
  obtain ⟨bm, N, nm, qn, bs, hdct, sn, sub, ab, col, dd, k0, k1, k2, k3, k5, mN, hC, hN, hni, T⟩ := exc_obj I.kIn q
  obtain ⟨hp, g, d, t, os⟩ := s
  refine wpAny_call_exc_subT F T hC hN hni (fun h' a hm => ?_) (by show 0 ≤ sizeLine; exact Nat.zero_le _)
  exact mk_of I hm r h (I.hok.gone hm.new)
end
end Gr

set_option Elab.async false
set_option maxRecDepth 100000
set_option maxHeartbeats 4000000
set_option linter.all false
/-! Ours: a monitor with all that it came from. -/
namespace KP
open PySem PySem.Spec PyProof.Rows L2 Gr GxR
structure BarF (K : PySem.W.Frag) (mg : Str → Option Value) (C : Addr) : Prop where
  g : mg "Barred" = some (.ref C)
  x : PySem.W.excIn K C [.type "ValueError", .type "Exception", .type "BaseException", .type "object"] "ValueError.__new__" = true
  k : PySem.W.keepIn K (.ref C) = true
  b : PySem.W.subIn K (.ref C) (.type "BaseException") = some true
  t : PySem.W.typeIn K (.ref C) = some (.type "type")
  e : PySem.W.exmOne K (.ref C) (.ref C) = some true
def IsE (H : Hp) (L : Nat) (v : V) (e : List Int × Int) : Prop := ∃ (x : Addr) (cv : V), v = .ref x ∧ H x = some (.tup [.int e.2, cv, .int ((e.1.count e.2 : Nat) : Int)]) ∧ IsI H cv (cntL e.1 e.2 L)
theorem IsI.ts {H H' : Hp} {v : V} {ns : List Int} (h : IsI H v ns) (s : TupStay H H') : IsI H' v ns := by
  obtain ⟨a, rfl, e⟩ := h
  exact ⟨a, rfl, s _ _ e⟩
theorem IsE.ts {H H' : Hp} {L : Nat} {v : V} {e : List Int × Int} (h : IsE H L v e) (s : TupStay H H') : IsE H' L v e := by
  obtain ⟨x, cv, e1, e2, e3⟩ := h
  exact ⟨x, cv, e1, s _ _ e2, e3.ts s⟩
def EsAt (H : Hp) (L : Nat) : List V → List (List Int × Int) → Prop
  | [], [] => True
  | v :: es, e :: st => IsE H L v e ∧ EsAt H L es st
  | _, _ => False
theorem EsAt.len {H : Hp} {L : Nat} : ∀ {es : List V} {st : List (List Int × Int)}, EsAt H L es st → es.length = st.length
  | [], [], _ => rfl
  | _ :: _, _ :: _, h => by rw [List.length_cons, List.length_cons, EsAt.len h.2]
  | [], _ :: _, h => h.elim
  | _ :: _, [], h => h.elim
theorem EsAt.ts {H H' : Hp} {L : Nat} (s : TupStay H H') : ∀ {es : List V} {st : List (List Int × Int)}, EsAt H L es st → EsAt H' L es st
  | [], [], _ => trivial
  | _ :: _, _ :: _, h => ⟨h.1.ts s, EsAt.ts s h.2⟩
  | [], _ :: _, h => h.elim
  | _ :: _, [], h => h.elim
theorem EsAt.snoc {H : Hp} {L : Nat} {v : V} {e : List Int × Int} (k : IsE H L v e) : ∀ {es : List V} {st : List (List Int × Int)}, EsAt H L es st → EsAt H L (es ++ [v]) (st ++ [e])
  | [], [], _ => ⟨k, trivial⟩
  | _ :: _, _ :: _, h => ⟨h.1, EsAt.snoc k h.2⟩
  | [], _ :: _, h => h.elim
  | _ :: _, [], h => h.elim
theorem EsAt.back {H : Hp} {L : Nat} {e : List Int × Int} : ∀ {es : List V} {st : List (List Int × Int)}, EsAt H L es (st ++ [e]) → ∃ es' v, es = es' ++ [v] ∧ EsAt H L es' st ∧ IsE H L v e
  | [v], [], h => ⟨[], v, rfl, trivial, h.1⟩
  | v :: _ :: _, [], h => h.2.elim
  | v :: es, x :: st, h => by
    obtain ⟨es', w, e1, e2, e3⟩ := EsAt.back h.2
    exact ⟨v :: es', w, by rw [e1]; rfl, ⟨h.1, e2⟩, e3⟩
  | [], [], h => h.elim
  | [], _ :: _, h => h.elim
section
variable {K : PySem.W.Frag} {mg : Str → Option Value}
def MonS (T : D K mg) (H : Hp) (a ea : Addr) (stk : List (List Int × Int)) (rv : V) (ps : List (Int × Int)) (hs ns : List Int) (t : Int) : Prop :=
  ∃ (dx : Addr) (cv : V) (es : List V), H a = some (.ins T.C_Monitor dx (monF rv t cv ((ns.count t : Nat) : Int) ea)) ∧ H ea = some (.lst es) ∧ EsAt H (spanP ps).toNat es stk ∧ IsI H cv (cntL ns t (spanP ps).toNat) ∧ Od H rv (rulesP ps hs)
variable {T : D K mg} {H H' : Hp} {a ea : Addr} {stk : List (List Int × Int)} {rv : V} {ps : List (Int × Int)} {hs ns : List Int} {t : Int}
theorem MonS.ts (h : MonS T H a ea stk rv ps hs ns t) (s : TupStay H H') (ha : H' a = H a) (he : H' ea = H ea) : MonS T H' a ea stk rv ps hs ns t := by
  obtain ⟨dx, cv, es, h1, h2, h3, h4, h5⟩ := h
  exact ⟨dx, cv, es, ha.trans h1, he.trans h2, h3.ts s, h4.ts s, h5.ts s (tup_rules ps hs)⟩
theorem MonS.same (h : MonS T H a ea stk rv ps hs ns t) (s : Same H H') : MonS T H' a ea stk rv ps hs ns t := by
  obtain ⟨dx, cv, es, h1, h2, _⟩ := id h
  exact h.ts (same_ts s) ((s _ _ h1).trans h1.symm) ((s _ _ h2).trans h2.symm)
theorem MonS.at (h : MonS T H a ea stk rv ps hs ns t) : MonAt T H a ea stk.length rv ps hs ns t := by
  obtain ⟨dx, cv, es, h1, h2, h3, h4, h5⟩ := h
  exact ⟨dx, cv, es, h1, h2, Nat.le_of_eq h3.len, h4, h5⟩
theorem MonS.new (h : MonAt T H a ea 0 rv ps hs ns t) : MonS T H a ea [] rv ps hs ns t := by
  obtain ⟨dx, cv, es, h1, h2, h3, h4, h5⟩ := h
  obtain rfl : es = [] := List.length_eq_zero_iff.mp (by omega)
  exact ⟨dx, cv, [], h1, h2, trivial, h4, h5⟩
end
def spAskS {K : PySem.W.Frag} {mg : Str → Option Value} (T : D K mg) (C : Addr) : Sp := fun vs H Q E => ∃ (a ea : Addr) (stk : List (List Int × Int)) (rv : V) (ps : List (Int × Int)) (hs ns : List Int) (t u : Int) (n : Nat), vs = [.ref a, .int u, .int (n : Nat)] ∧ MonS T H a ea stk rv ps hs ns t ∧ a ≠ ea ∧ Good ps hs ∧ Stn ps hs ns t ∧ t ≤ u ∧ n ≤ 100 ∧ stk.length ≤ 4000 ∧
  (mayI ps hs ns u (n : Nat) = true → ∀ H', (∀ b o, H b = some o → b ≠ a → b ≠ ea → H' b = some o) → MonS T H' a ea (stk ++ [(ns, t)]) rv ps hs (ns ++ List.replicate n u) u → Q .non H') ∧ (mayI ps hs ns u (n : Nat) = false → ∀ H', Same H H' → E (.ref C) none H')
def spUndo {K : PySem.W.Frag} {mg : Str → Option Value} (T : D K mg) : Sp := fun vs H Q _ => ∃ (a ea : Addr) (stk : List (List Int × Int)) (rv : V) (ps : List (Int × Int)) (hs ns : List Int) (t : Int), vs = [.ref a] ∧ MonS T H a ea stk rv ps hs ns t ∧ a ≠ ea ∧ stk.length ≤ 4000 ∧ (stk = [] → Q (.bl false) H) ∧
  (∀ st0 e, stk = st0 ++ [e] → ∀ H', (∀ b o, H b = some o → b ≠ a → b ≠ ea → H' b = some o) → MonS T H' a ea st0 rv ps hs e.1 e.2 → Q (.bl true) H')
def spRulesM {K : PySem.W.Frag} {mg : Str → Option Value} (T : D K mg) : Sp := fun vs H Q _ => ∃ (a ea : Addr) (k : Nat) (rv : V) (ps : List (Int × Int)) (hs ns : List Int) (t : Int), vs = [.ref a] ∧ MonAt T H a ea k rv ps hs ns t ∧ Q rv H
def spMomM {K : PySem.W.Frag} {mg : Str → Option Value} (T : D K mg) : Sp := fun vs H Q _ => ∃ (a ea : Addr) (k : Nat) (rv : V) (ps : List (Int × Int)) (hs ns : List Int) (t : Int), vs = [.ref a] ∧ MonAt T H a ea k rv ps hs ns t ∧ Q (.int t) H
def spAskdM {K : PySem.W.Frag} {mg : Str → Option Value} (T : D K mg) : Sp := fun vs H Q _ => ∃ (a ea : Addr) (k : Nat) (rv : V) (ps : List (Int × Int)) (hs ns : List Int) (t : Int), vs = [.ref a] ∧ MonAt T H a ea k rv ps hs ns t ∧ Q (.int ((ns.count t : Nat) : Int)) H
section
variable {P : Program} {w : World} {K : PySem.W.Frag} {mg : Str → Option Value} {base : Heap} {C : Addr}
theorem sc_rulm : FnScope ["self"] ["self"] (defScope s_rules) := ⟨rfl, rfl, rfl, by decide +kernel, rfl, by decide +kernel, by decide +kernel⟩
theorem ok_rulm (T : D K mg) : FnOk P w K mg base CX0 1 T.f_rules T.d_rules ["self"] (spRulesM T) := by
  refine T.U_rules.ok sc_rulm (fun vs H Q E h => ?_) (fun cdv A outer s H vs Q E hr h => ?_)
  · obtain ⟨a, ea, k, rv, ps, hs, ns, t, rfl, _⟩ := h
    rfl
  · obtain ⟨a, ea, kk, rv, ps, hs, ns, t, rfl, ⟨dx, cv, es, h1, h2, h3, h4, h5⟩, k⟩ := h
    refine ⟨_, pss_one (ps_ret (pe_fld (pv 0) rfl)), ?_⟩
    exact ⟨_, rfl, a, _, _, _, _, rfl, h1, T.cl_Monitor, T.n__rules, rfl, k⟩
theorem sc_momm : FnScope ["self"] ["self"] (defScope s_moment) := ⟨rfl, rfl, rfl, by decide +kernel, rfl, by decide +kernel, by decide +kernel⟩
theorem ok_momm (T : D K mg) : FnOk P w K mg base CX0 1 T.f_moment T.d_moment ["self"] (spMomM T) := by
  refine T.U_moment.ok sc_momm (fun vs H Q E h => ?_) (fun cdv A outer s H vs Q E hr h => ?_)
  · obtain ⟨a, ea, k, rv, ps, hs, ns, t, rfl, _⟩ := h
    rfl
  · obtain ⟨a, ea, kk, rv, ps, hs, ns, t, rfl, ⟨dx, cv, es, h1, h2, h3, h4, h5⟩, k⟩ := h
    refine ⟨_, pss_one (ps_ret (pe_fld (pv 0) rfl)), ?_⟩
    exact ⟨_, rfl, a, _, _, _, _, rfl, h1, T.cl_Monitor, T.n__moment, rfl, k⟩
theorem sc_askdm : FnScope ["self"] ["self"] (defScope s_asked) := ⟨rfl, rfl, rfl, by decide +kernel, rfl, by decide +kernel, by decide +kernel⟩
theorem ok_askdm (T : D K mg) : FnOk P w K mg base CX0 1 T.f_asked T.d_asked ["self"] (spAskdM T) := by
  refine T.U_asked.ok sc_askdm (fun vs H Q E h => ?_) (fun cdv A outer s H vs Q E hr h => ?_)
  · obtain ⟨a, ea, k, rv, ps, hs, ns, t, rfl, _⟩ := h
    rfl
  · obtain ⟨a, ea, kk, rv, ps, hs, ns, t, rfl, ⟨dx, cv, es, h1, h2, h3, h4, h5⟩, k⟩ := h
    refine ⟨_, pss_one (ps_ret (pe_fld (pv 0) rfl)), ?_⟩
    exact ⟨_, rfl, a, _, _, _, _, rfl, h1, T.cl_Monitor, T.n__asked, rfl, k⟩
theorem ok_asks (T : D K mg) (B : BarF K mg C) : FnOk P w K mg base (L2.CX P w) 7 T.f_ask T.d_ask ["self", "moment", "many"] (spAskS T C) := by
  refine T.W_ask.ok sc_askm (fun vs H Q E h => ?_) (fun cdv A outer s H vs Q E hr h => ?_)
  · obtain ⟨a, ea, k, rv, ps, hs, ns, t, u, n, rfl, _⟩ := h
    rfl
  · obtain ⟨a, ea, stk, rv, ps, hs, ns, t, u, n, rfl, hS, nae, g, st, hu, n1, k4, kY, kN⟩ := h
    have hM := hS.at
    have nd := sc_askm.nd
    have mz : 5000 ≤ sizeLine := by decide
    refine ⟨_, pss_cons (ps_if (pt_not (pt_val (pe_meth (pv 0) T.cl_Monitor T.M_lets (ok_letm T) hr T.b_lets .nil pass0 (pa_cons (pv 1) (pa_cons (pv 2) pa_nil)))))
        (pss_one (ps_raise rfl (takes_of rfl rfl rfl rfl) (pmk_exc0 PySem.F.excBase_ValueError B.x B.g B.k (raises_own B.b B.t) rfl)))
        (pss_nil))
      (pss_cons (ps_set (i := 3) nd rfl (.inl rfl) (pe_meth (pv 0) T.cl_Monitor T.M__counts_then (ok_ctm T) (hr.mono (by decide)) T.b__counts_then .nil pass0 (pa_cons (pv 1) pa_nil)))
      (pss_cons (ps_set (i := 4) nd rfl (.inl rfl) (pe_op op_add (pe_meth (pv 0) T.cl_Monitor T.M__asked_then (ok_atm T) (hr.mono (by decide)) T.b__asked_then .nil pass0 (pa_cons (pv 1) pa_nil)) (pv 2)))
      (pss_cons (ps_expr (pe_bm PySem.F.plainAttrs_list PySem.F.slot_list_append PySem.F.type_list_append mt_append (pe_fld (pv 0) rfl) (pa_cons (pe_tup (pa_cons (pe_fld (pv 0) rfl) (pa_cons (pe_fld (pv 0) rfl) (pa_cons (pe_fld (pv 0) rfl) pa_nil)))) pa_nil)))
      (pss_cons (ps_fld (pv 0) (pv 1) rfl)
      (pss_cons (ps_fld (pv 0) (pv 3) rfl)
      (pss_one (ps_fld (pv 0) (pv 4) rfl))))))), ?_⟩
    obtain ⟨dx, cv, es, h1, h2, h3, h4, h5⟩ := id hS
    have h3l := h3.len
    refine ⟨_, rfl, a, _, _, rfl, h1, rfl, _, rfl, _, rfl, a, ea, stk.length, rv, ps, hs, ns, t, u, (n : Nat), rfl, hM, g, st, hu, by omega, by omega, fun H1 s1 => ⟨_, rfl, ?_⟩⟩
    cases hmay : mayI ps hs ns u (n : Nat) with
    | false =>
      refine iteT ?_
      exact kN hmay H1 s1
    | true =>
    refine iteF (next_of ?_)
    dsimp only
    refine ⟨_, rfl, a, _, _, rfl, s1 _ _ h1, rfl, _, rfl, a, ea, stk.length, rv, ps, hs, ns, t, u, rfl, hM.same s1, g, st.top, hu, fun z H2 s2 iz => gn ?_⟩
    have s12 := s1.trans s2
    dsimp only
    refine ⟨_, rfl, a, _, _, rfl, s12 _ _ h1, rfl, _, rfl, a, ea, stk.length, rv, ps, hs, ns, t, u, rfl, hM.same s12, _, rfl, _, _, rfl, rfl, gn ?_⟩
    dsimp only
    have e1 := s12 _ _ h1
    refine ⟨_, rfl, a, _, _, _, _, rfl, e1, T.cl_Monitor, T.n__earlier, rfl, .inl ⟨rfl, _, SqL.of (s12 _ _ h2)⟩, _, rfl, a, _, _, _, _, rfl, e1, T.cl_Monitor, T.n__moment, rfl, _, rfl, a, _, _, _, _, rfl, e1, T.cl_Monitor, T.n__counts, rfl, _, rfl, a, _, _, _, _, rfl, e1, T.cl_Monitor, T.n__asked, rfl, by show 3 ≤ sizeLine; omega, fun y hy => ?_⟩
    have s3 := same_upd (o := HO.tup [V.int t, cv, V.int ((ns.count t : Nat) : Int)]) hy
    have s13 := s12.trans s3
    replace iz := iz.same s3
    have e13 := s13 _ _ h1
    have e23 := s13 _ _ h2
    have o53 := h5.same s13
    have ie : IsE (upd H2 y (.tup [V.int t, cv, V.int ((ns.count t : Nat) : Int)])) (spanP ps).toNat (.ref y) (ns, t) := ⟨y, cv, rfl, upd_same, h4.same s13⟩
    have h33 := EsAt.snoc ie (h3.ts (same_ts s13))
    generalize upd H2 y (.tup [V.int t, cv, V.int ((ns.count t : Nat) : Int)]) = H3 at *
    refine ⟨ea, es, _, rfl, rfl, e23, by omega, ?_⟩
    have f1 : upd H3 ea (.lst (es ++ [V.ref y])) a = _ := (upd_ne nae).trans e13
    have f2 : upd H3 ea (.lst (es ++ [V.ref y])) ea = some (.lst (es ++ [V.ref y])) := upd_same
    have fr : ∀ b o, H b = some o → b ≠ a → b ≠ ea → upd H3 ea (.lst (es ++ [V.ref y])) b = some o := fun b o e n1 n2 => (upd_ne n2).trans (s13 _ _ e)
    have ts3 : TupStay H3 (upd H3 ea (.lst (es ++ [V.ref y]))) := ts_put e23
    have iz4 : IsI (upd H3 ea (.lst (es ++ [V.ref y]))) z (cntL ns u (spanP ps).toNat) := iz.ts ts3
    have o54 := o53.ts ts3 (tup_rules ps hs)
    have h34 := h33.ts ts3
    generalize upd H3 ea (.lst (es ++ [V.ref y])) = H4 at *
    refine ⟨_, rfl, _, rfl, a, _, _, _, rfl, f1, T.cl_Monitor, T.n__moment, by show 5 < 1000; decide, ?_⟩
    refine ⟨_, rfl, _, rfl, a, _, _, _, rfl, upd_same, T.cl_Monitor, T.n__counts, by show 5 < 1000; decide, ?_⟩
    refine ⟨_, rfl, _, rfl, a, _, _, _, rfl, upd_same, T.cl_Monitor, T.n__asked, by show 5 < 1000; decide, ?_⟩
    have tsA : ∀ (G : Hp) (o o' : HO), G a = some (.ins T.C_Monitor dx (monF rv t cv ((ns.count t : Nat) : Int) ea)) → TupStay G (upd (upd (upd G a o) a o') a (.ins T.C_Monitor dx (monF rv u z ((if u = t then ((ns.count t : Nat) : Int) else 0) + (n : Nat)) ea))) := fun G o o' e b xs q => by
      have : b ≠ a := fun w => by rw [w, e] at q; cases q
      rw [upd_ne this, upd_ne this, upd_ne this]
      exact q
    refine kY hmay _ (fun b o e n1 n2 => ?_) ?_
    · rw [upd_ne n1, upd_ne n1, upd_ne n1]
      exact fr b o e n1 n2
    · have ec : ((if u = t then ((ns.count t : Nat) : Int) else 0) + (n : Nat)) = (((ns ++ List.replicate n u).count u : Nat) : Int) := by
        rw [← cnt_ask st.top hu n]
        split <;> omega
      refine ⟨dx, z, es ++ [V.ref y], ?_, ?_, h34.ts (tsA H4 _ _ f1), ?_, ?_⟩
      · rw [← ec]
        exact upd_same
      · rw [upd_ne (Ne.symm nae), upd_ne (Ne.symm nae), upd_ne (Ne.symm nae)]
        exact f2
      · rw [cntL_ask]
        exact iz4.ts (tsA H4 _ _ f1)
      · exact o54.ts (tsA H4 _ _ f1) (tup_rules ps hs)
theorem sc_undo : FnScope ["self"] ["self"] (defScope s_undo) := ⟨rfl, rfl, rfl, by decide +kernel, rfl, by decide +kernel, by decide +kernel⟩
theorem ok_undo (T : D K mg) : FnOk P w K mg base CX0 1 T.f_undo T.d_undo ["self"] (spUndo T) := by
  refine T.U_undo.ok sc_undo (fun vs H Q E h => ?_) (fun cdv A outer s H vs Q E hr h => ?_)
  · obtain ⟨a, ea, stk, rv, ps, hs, ns, t, rfl, _⟩ := h
    rfl
  · obtain ⟨a, ea, stk, rv, ps, hs, ns, t, rfl, hS, nae, k4, kN, kY⟩ := h
    have nd := sc_undo.nd
    have mz : 5000 ≤ sizeLine := by decide
    refine ⟨_, pss_cons (ps_if (pt_not (pt_truth (pe_fld (pv 0) rfl) (fun _ => rfl)))
        (pss_one (ps_ret pe_bl))
        (pss_nil))
      (pss_cons (ps_asg (pe_bm0 PySem.F.plainAttrs_list PySem.F.slot_list_pop PySem.F.type_list_pop mt_pop (pe_fld (pv 0) rfl)) (pg_tup rfl (pgs_cons (pg_fld (pv 0)) (pgs_cons (pg_fld (pv 0)) (pgs_cons (pg_fld (pv 0)) pgs_nil)))))
      (pss_one (ps_ret pe_bl))), ?_⟩
    obtain ⟨dx, cv, es, h1, h2, h3, h4, h5⟩ := id hS
    refine ⟨_, rfl, a, _, _, _, _, rfl, h1, T.cl_Monitor, T.n__earlier, rfl, _, .inl ⟨es, SqL.of h2, rfl⟩, ?_⟩
    rcases List.eq_nil_or_concat stk with rfl | ⟨st0, e, rfl⟩
    · match es, h3 with
      | [], _ =>
        refine iteT ?_
        exact kN rfl
    · rw [List.concat_eq_append] at *
      obtain ⟨es', v, rfl, h6, h7⟩ := h3.back
      obtain ⟨x, cv', rfl, hx, iz⟩ := h7
      have hb : (!(es' ++ [V.ref x]).isEmpty) = true := by simp
      rw [hb]
      refine iteF (next_of ?_)
      dsimp only
      have hxe : x ≠ ea := fun z => by rw [z, h2] at hx; cases hx
      have hxa : x ≠ a := fun z => by rw [z, h1] at hx; cases hx
      have ts1 : TupStay H (upd H ea (.lst (es' ++ [V.ref x]).dropLast)) := ts_put h2
      have e1 : upd H ea (.lst (es' ++ [V.ref x]).dropLast) a = _ := (upd_ne nae).trans h1
      refine ⟨_, rfl, a, _, _, _, _, rfl, h1, T.cl_Monitor, T.n__earlier, rfl, .inl ⟨rfl, _, SqL.of h2⟩, ea, _, V.ref x, rfl, rfl, h2, by simp, ?_⟩
      refine ⟨x, _, rfl, SqT.of (ts1 _ _ hx), rfl, _, _, rfl, _, rfl, a, _, _, _, rfl, e1, T.cl_Monitor, T.n__moment, by show 5 < 1000; decide, ?_⟩
      refine ⟨_, _, rfl, _, rfl, a, _, _, _, rfl, upd_same, T.cl_Monitor, T.n__counts, by show 5 < 1000; decide, ?_⟩
      refine ⟨_, _, rfl, _, rfl, a, _, _, _, rfl, upd_same, T.cl_Monitor, T.n__asked, by show 5 < 1000; decide, rfl, ?_⟩
      have tsA : ∀ (G : Hp) (o o' o'' : HO), G a = some (.ins T.C_Monitor dx (monF rv t cv ((ns.count t : Nat) : Int) ea)) → TupStay G (upd (upd (upd G a o) a o') a o'') := fun G o o' o'' e b xs q => by
        have : b ≠ a := fun w => by rw [w, e] at q; cases q
        rw [upd_ne this, upd_ne this, upd_ne this]
        exact q
      have tsB := fun b xs q => tsA _ (.ins T.C_Monitor dx (putF "_moment" (.int e.2) (monF rv t cv ((ns.count t : Nat) : Int) ea))) (.ins T.C_Monitor dx (putF "_counts" cv' (putF "_moment" (.int e.2) (monF rv t cv ((ns.count t : Nat) : Int) ea)))) (.ins T.C_Monitor dx (monF rv e.2 cv' ((e.1.count e.2 : Nat) : Int) ea)) e1 b xs (ts1 b xs q)
      refine kY st0 e rfl _ (fun b o q n1 n2 => ?_) ⟨dx, cv', es', upd_same, ?_, h6.ts tsB, iz.ts tsB, h5.ts tsB (tup_rules ps hs)⟩
      · rw [upd_ne n1, upd_ne n1, upd_ne n1, upd_ne n2]
        exact q
      · rw [upd_ne (Ne.symm nae), upd_ne (Ne.symm nae), upd_ne (Ne.symm nae), upd_same, List.dropLast_concat]
end
end KP

set_option Elab.async false
set_option maxRecDepth 100000
set_option maxHeartbeats 4000000
set_option linter.all false
/-! Ours: quiet code: len and items of a list; loops of two fors. -/
namespace Gr
open PySem PySem.Spec PyProof.Rows L2 GxR
section
variable {P : Program} {w : World} {K : PySem.W.Frag} {mg : Str → Option Value} {base h0 : Heap} {k : Nat} {env : Env} {m : Str → Option Value}
theorem vd_lst {h : Heap} {y : Value} {ds : List PyData} (r : Vd h y (.list ds)) : ∃ t its, y = .ref t ∧ h.IsList t its ∧ VdAll h its.toList ds := by
  obtain ⟨as, r⟩ := r
  cases r with
  | list h1 h2 h3 h4 => exact ⟨_, _, rfl, ⟨_, h1, h2, _, h3⟩, vd_all h4⟩
theorem qe_lenL {e : Expr} {p1 pos : Pos} {ds : List PyData} (C : Qc K mg base env) (he : QE P w base h0 k env m e (.list ds)) (hg : env.scope.names.lookup ("len" : Str) = some .globalImplicit) (hm : mg "len" = none) (hl : ds.length ≤ sizeLine)
    (hs : starEach [e] env = (false, eval e env) :: starEach [] env := by rfl) (hpl : (backTo pos (starEach [] env)).any (·.1) = false := by rfl) :
    QE P w base h0 k env m (.Call (.Name "len" p1) [e] [] pos) (.int ds.length) := by
  intro B E z q
  refine wpAny_Call_Name_kw (q_blt C q hg hm PySem.boot_len (PyProof.Rows.callWith_builtin1 ?_ hs hpl))
  rw [hs]
  show wpAny _ _ (spliced ((false, eval e env) :: backTo pos (starEach [] env))) _ _ z
  refine Calls.spliced_cons (thn (he B E z q) fun u z1 ⟨r1, k1⟩ => Calls.spliced_nil ?_)
  obtain ⟨t, its, rfl, ht, ha⟩ := vd_lst r1
  have hn := line63
  have hz : its.size = ds.length := by
    have := ha.len
    rw [← this, Array.length_toList]
  refine len_list ht (by rw [hz]; omega) ⟨?_, kt k1 (keeps_tok _ _)⟩
  rw [hz]
  exact ⟨_, .int _ _⟩
def items_at (i : Int) (its : Array Value) : Option Value := if 0 ≤ i then its[i.toNat]? else its[(i + its.size).toNat]?
theorem qe_ixAL {e sl : Expr} {i : Int} {pos : Pos} {ds : List PyData} {d : PyData} (he : QE P w base h0 k env m e (.list ds)) (hi : QE P w base h0 k env m sl (.int i)) (ha : atI ds i = some d) (hl : ds.length ≤ sizeLine) (hs : ∀ o v, subscripted sl false o v = operate [o, v] (getItem o v) := by intro _ _; with_unfolding_all rfl) :
    QE P w base h0 k env m (.Subscript e sl pos) d := by
  intro B E z q
  refine Subscript_ (thn (he B E z q) fun u z1 ⟨r1, k1⟩ => thn (hi B E z1 (q.next k1)) fun x z2 ⟨r2, k2⟩ => ?_)
  obtain ⟨t, its, rfl, ht, hall⟩ := vd_lst (r1.up (kk k2))
  obtain ⟨t', rfl⟩ := vd_int r2
  have hn := line63
  have hz : its.size = ds.length := by
    have := hall.len
    rw [← this, Array.length_toList]
  obtain ⟨j, e1, e2, e3, e4, e5⟩ := atI_get ha
  obtain ⟨v, hv, rv⟩ := hall.get e2
  have hv' : its[j]? = some v := by rw [← Array.getElem?_toList]; exact hv
  have hx : items_at i its = some v := by
    unfold items_at
    by_cases h : 0 ≤ i
    · rw [if_pos h]
      have ej : j = i.toNat := by
        unfold seqIndex? at e1
        simp only [show ¬ i < 0 by omega, if_false] at e1
        split at e1 <;> simp_all
      rw [← ej]; exact hv'
    · rw [if_neg h]
      have ej : j = (i + ds.length).toNat := by
        unfold seqIndex? at e1
        simp only [show i < 0 by omega, if_true] at e1
        split at e1 <;> simp_all
      rw [hz, ← ej]; exact hv'
  unfold items_at at hx
  by_cases h : 0 ≤ i
  · rw [if_pos h] at hx
    exact subscriptTail_builtinR (x := v) ht.typeIs slot_list_getitem.lookup (wpAny_getItem_list (Q := fun r s' => r = v ∧ (Vd s'.heap r d ∧ Keeps z s')) ht h (by omega) hx ⟨rfl, rv, kt k1 k2⟩) (hs _ _)
  · rw [if_neg h] at hx
    exact subscriptTail_builtinR (x := v) ht.typeIs slot_list_getitem.lookup (wpAny_getItem_list_neg (Q := fun r s' => r = v ∧ (Vd s'.heap r d ∧ Keeps z s')) ht (by omega) (by rw [hz]; omega) (by omega) hx ⟨rfl, rv, kt k1 k2⟩) (hs _ _)
end
/-- a loop whose turn is told: for comprehensions of two fors -/
theorem walk_loop {J : It} {n : Nat} {G : Hp → Prop} {Y : Nat → Hp → V → Hp → Prop} (w : Walk J n G Y) {STEP : V → Hp → (Hp → Prop) → Prop} {Nx : Hp → Prop} {H0 : Hp} (Pv : Nat → Hp → Prop) (h0 : Pv 0 H0) (hG : ∀ i H, i ≤ n → Pv i H → G H)
    (hs : ∀ i x H H', i < n → Pv i H → Y i H x H' → STEP x H' (Pv (i + 1))) (hd : ∀ H, Pv n H → Nx H) :
    ∃ W : Nat → Nat → Hp → Prop, (∃ m, W 0 m H0) ∧ ∀ i m H, W i m H → (J.stop i H ∧ Nx H) ∨ (J.go i H ∧ ∃ Nx1 : Hp → Prop, (∀ H', Nx1 H' → ∃ m', m' < m ∧ W (i + 1) m' H') ∧ ∀ x H', J.yld i H x H' → STEP x H' Nx1) := by
  refine ⟨fun i m H => m = n - i ∧ i ≤ n ∧ Pv i H, ⟨n, by simp, Nat.zero_le _, h0⟩, ?_⟩
  rintro i m H ⟨rfl, hi, p⟩
  have q := hG i H hi p
  by_cases hlt : i < n
  · exact .inr ⟨w.goes i H hlt q, Pv (i + 1), fun H' p' => ⟨n - (i + 1), by omega, rfl, hlt, p'⟩, fun x H' y => hs i x H H' hlt p (w.yields i H x H' hlt q y)⟩
  · have e : i = n := by omega
    subst e
    exact .inl ⟨w.stops H q, hd H p⟩
end Gr

set_option Elab.async false
set_option maxRecDepth 100000
set_option maxHeartbeats 4000000
set_option linter.all false
/-! Ours: frozen tuples joined: what is new is frozen too. -/
namespace Gr
open PySem PySem.Spec PyProof.Rows L2 GxR
def rCatF (K : PySem.W.Frag) : R2 := fun x y H Q => ∃ a b xs ys, x = .ref a ∧ y = .ref b ∧ SqT K H a xs ∧ SqT K H b ys ∧ xs.length + ys.length ≤ sizeLine ∧
  (xs = [] → Q (.ref b) H) ∧ (xs ≠ [] → ys = [] → Q (.ref a) H) ∧ (xs ≠ [] → ys ≠ [] → ∀ (p : Addr) (o : Obj), H p = none → o.dict = none → Q (.ref p) (upd H p (.frz o (.tup (xs ++ ys)))))
theorem op_catF {X : Cx} : OpR X (binaryOp .Add) (rCatF X.K) := by
  intro pins s σ H x y v u Q I rx ry h
  obtain ⟨a, b, xs, ys, rfl, rfl, ha, hb, hz, q0, q1, q2⟩ := h
  cases rx
  cases ry
  obtain ⟨its, r1, p1, _⟩ := I.tuple ha
  obtain ⟨its2, r2, p2, _⟩ := I.tuple hb
  by_cases hx : xs = []
  · subst hx
    cases r1
    exact cat_tup0 p1 p2 ⟨.ref b, H, I, rfl, q0 rfl⟩
  · refine HT.cat_tup p1 p2 (fun z => hx (r1.nil_iff.mp z)) (fun z => ⟨.ref a, H, I, rfl, q1 hx (r2.nil_iff.mp z)⟩) (fun z => ?_) (by rw [← r1.length, ← r2.length]; exact hz)
    refine ⟨.ref s.heap.objs.size, _, I.laid (t' := s.toks) (o := .frz { cls := .type "tuple", data := .seq (its ++ its2).toArray } (.tup (xs ++ ys))) (fun b ob q => Heap.get?_push_of_some _ q) (Nat.le_refl _) ?_, rfl, q2 hx (fun w => z (r2.nil_iff.mpr w)) _ _ (I.hok.fresh (Nat.le_refl _)) rfl⟩
    exact ⟨Heap.get?_push_size _ rfl, by rw [List.length_append]; exact hz, _, r1.append r2, IsTup.new _ _⟩
end Gr

set_option Elab.async false
set_option maxRecDepth 100000
set_option maxHeartbeats 4000000
set_option linter.all false
/-! Ours: asking within a try; whether an object stands where the law's own state stands. -/
namespace KP
open PySem PySem.Spec PyProof.Rows L2 Gr GxR
def StV (H : Hp) (v : V) (e : List Int × Int) : Prop := ∃ (x r : Addr), v = .ref x ∧ H x = some (.tup [.int e.2, .ref r]) ∧ H r = some (.lst (e.1.map V.int))
def spAskedL {K : PySem.W.Frag} {mg : Str → Option Value} (T : D K mg) : Sp := fun vs H Q _ => ∃ (a ea : Addr) (stk : List (List Int × Int)) (rv : V) (ps : List (Int × Int)) (hs ns : List Int) (t u : Int) (n : Nat), vs = [.ref a, .int u, .int (n : Nat)] ∧ MonS T H a ea stk rv ps hs ns t ∧ a ≠ ea ∧ Good ps hs ∧ Stn ps hs ns t ∧ t ≤ u ∧ n ≤ 100 ∧ stk.length ≤ 4000 ∧
  (mayI ps hs ns u (n : Nat) = true → ∀ H', (∀ b o, H b = some o → b ≠ a → b ≠ ea → H' b = some o) → MonS T H' a ea (stk ++ [(ns, t)]) rv ps hs (ns ++ List.replicate n u) u → Q .non H') ∧ (mayI ps hs ns u (n : Nat) = false → ∀ z H', Same H H' → H' z = some (.tup [.str "barred"]) → Q (.ref z) H')
def spState {K : PySem.W.Frag} {mg : Str → Option Value} (T : D K mg) : Sp := fun vs H Q _ => ∃ (a ea : Addr) (k : Nat) (rv lv hv sv : V) (ps : List (Int × Int)) (hs ns : List Int) (t : Int), vs = [.ref a, lv, hv, sv] ∧ MonAt T H a ea k rv ps hs ns t ∧ Good ps hs ∧ Od H lv (.tuple ((ps.map inD).map tw)) ∧ Od H hv (.tuple (hs.map PyData.int)) ∧ StV H sv (ns, t) ∧ 0 ≤ t ∧ t < 10 ^ 9 ∧ ns.length ≤ 1000 ∧ ∀ H', Same H H' → Q (.bl true) H'
section
variable {P : Program} {w : World} {K : PySem.W.Frag} {mg : Str → Option Value} {base : Heap} {C : Addr}
theorem sc_lasked : FnScope ["_law_monitor", "_law_time", "_law_number"] ["_law_monitor", "_law_time", "_law_number"] (defScope s_l_asked) := ⟨rfl, rfl, rfl, by decide +kernel, rfl, by decide +kernel, by decide +kernel⟩
theorem ok_lasked (T : D K mg) (B : BarF K mg C) : FnOk P w K mg base CX0 8 T.f_l_asked T.d_l_asked ["_law_monitor", "_law_time", "_law_number"] (spAskedL T) := by
  refine T.U_l_asked.ok sc_lasked (fun vs H Q E h => ?_) (fun cdv A outer s H vs Q E hr h => ?_)
  · obtain ⟨a, ea, k, rv, ps, hs, ns, t, u, n, rfl, _⟩ := h
    rfl
  · obtain ⟨a, ea, stk, rv, ps, hs, ns, t, u, n, rfl, hS, nae, g, st, hu, n1, k4, kY, kN⟩ := h
    have mz : 5000 ≤ sizeLine := by decide
    obtain ⟨d2, v2, b2⟩ := T.b1_ask
    refine ⟨_, pss_one (ps_try_only rfl rfl ⟨rfl, by decide, .inl B.g⟩ takes0 (fun W pn xe tk _ => pss_one (ps_ret (pe_ifExp (pt_cmpR op_ne (pv 2) pe_int (nomark _)) (pe_methX (pv 0) T.cl_Monitor T.M_ask (ok_asks T B) hr T.b_ask .nil (fun σ => passAt tk σ) (pa_cons (pv 1) (pa_cons (pv 2) pa_nil))) (pe_methX (pv 0) T.cl_Monitor T.M_ask (ok_asks T B) hr b2 v2 (fun σ => passAt tk σ) (pa_cons (pv 1) pa_nil)))))
      (fun a oe cls d pn _ _ => pss_one (ps_ret (pe_tup (pa_cons pe_str pa_nil))))), ?_⟩
    obtain ⟨dx, cv, es, h1, _⟩ := id hS
    have kB : mayI ps hs ns u (n : Nat) = false → ∀ H' z, Same H H' → H' z = none → Q (.ref z) (upd H' z (.tup [.str "barred"])) := fun hm H' z s hz => kN hm z _ (s.trans (same_upd hz)) upd_same
    refine ⟨_, rfl, rfl, _, rfl, ?_⟩
    dsimp only
    refine ite2 (fun hn => ?_) (fun hn => ?_)
    · refine ⟨_, rfl, a, _, _, rfl, h1, rfl, _, rfl, _, rfl, a, ea, stk, rv, ps, hs, ns, t, u, n, rfl, hS, nae, g, st, hu, n1, k4, kY, fun hm H1 s1 => ?_⟩
      refine ⟨true, B.e, fun _ a na => ?_, fun q => nomatch q⟩
      exact ⟨by show 1 ≤ sizeLine; omega, fun z hz => kB hm _ z s1 hz⟩
    · have hn : n = 1 := by
        have : V.int ((n : Nat) : Int) = V.int 1 := by
          by_cases z : V.int ((n : Nat) : Int) = V.int 1
          · exact z
          · exact absurd (by simpa using z) hn
        injection this with this
        omega
      subst hn
      refine ⟨_, rfl, a, _, _, rfl, h1, rfl, _, rfl, a, ea, stk, rv, ps, hs, ns, t, u, 1, rfl, hS, nae, g, st, hu, n1, k4, kY, fun hm H1 s1 => ?_⟩
      refine ⟨true, B.e, fun _ a na => ?_, fun q => nomatch q⟩
      exact ⟨by show 1 ≤ sizeLine; omega, fun z hz => kB hm _ z s1 hz⟩
end
end KP

set_option Elab.async false
set_option maxRecDepth 100000
set_option maxHeartbeats 4000000
set_option linter.all false
/-! Ours: the span as the greatest width. -/
namespace KP
open PySem PySem.Spec PyProof.Rows L2 Gr GxR
theorem span_ge {ps : List (Int × Int)} {p : Int × Int} (hp : p ∈ ps) : p.2 - 1 ≤ spanP ps := by
  unfold spanP
  cases ps with
  | nil => cases hp
  | cons q l =>
    have w := foldl_ge (l.map (·.2)) q.2
    show p.2 - 1 ≤ (l.map (·.2)).foldl max q.2 - 1
    rcases List.mem_cons.mp hp with rfl | h
    · have := w.1
      omega
    · have := w.2 _ (List.mem_map.mpr ⟨p, h, rfl⟩)
      omega
theorem foldl_mem : ∀ (l : List Int) (a : Int), l.foldl max a ∈ a :: l
  | [], a => List.mem_cons_self
  | b :: l, a => by
    rw [List.foldl_cons]
    rcases List.mem_cons.mp (foldl_mem l (max a b)) with h | h
    · rw [h]
      by_cases z : a ≤ b
      · rw [Int.max_eq_right z]; exact List.mem_cons_of_mem _ List.mem_cons_self
      · rw [Int.max_eq_left (by omega)]; exact List.mem_cons_self
    · exact List.mem_cons_of_mem _ (List.mem_cons_of_mem _ h)
theorem span_max {ps : List (Int × Int)} {M : Int} (hp : ∀ p ∈ ps, 1 ≤ p.2) (hm : M ∈ ps.map (·.2) ++ [1]) (hle : ∀ y ∈ ps.map (·.2) ++ [1], y ≤ M) : M - 1 = spanP ps := by
  have a1 : M - 1 ≤ spanP ps := by
    rcases List.mem_append.mp hm with h | h
    · obtain ⟨q, hq, rfl⟩ := List.mem_map.mp h
      exact span_ge hq
    · rw [List.mem_singleton.mp h]
      cases ps with
      | nil => decide
      | cons q l =>
        have := span_ge (ps := q :: l) List.mem_cons_self
        have := hp q List.mem_cons_self
        omega
  have a2 : spanP ps ≤ M - 1 := by
    unfold spanP
    cases ps with
    | nil =>
      have := hle 1 (by simp)
      show (1 : Int) - 1 ≤ M - 1
      omega
    | cons q l =>
      have e := foldl_mem (l.map (·.2)) q.2
      have := hle _ (List.mem_append_left _ (show (l.map (·.2)).foldl max q.2 ∈ (q :: l).map (·.2) from e))
      show (l.map (·.2)).foldl max q.2 - 1 ≤ M - 1
      omega
  omega
end KP

set_option Elab.async false
set_option maxRecDepth 100000
set_option maxHeartbeats 8000000
set_option linter.all false
/-! Ours: whether an object stands where the law's own state stands. -/
namespace KP
open PySem PySem.Spec PyProof.Rows L2 Gr GxR
theorem small_rules {ps : List (Int × Int)} {hs : List Int} (g : Good ps hs) : SmallD 8 325 (rulesP ps hs) := by
  have h1 : SmallD 6 127 (.tuple ((ps.map inD).map tw)) := (small_tup (k := 4) (s := 29) fun d hd => by
    obtain ⟨q, hq, rfl⟩ := List.mem_map.mp hd
    obtain ⟨p, hp, rfl⟩ := List.mem_map.mp hq
    have := g.p p hp
    exact (small_tup (k := 2) (s := 11) (ds := [.int p.1, .int p.2]) fun e he => by
      simp only [List.mem_cons, List.not_mem_nil, or_false] at he
      rcases he with rfl | rfl
      · exact small_int (by omega) (by omega)
      · exact small_int (by omega) (by omega)).mono (by decide) (by show (11 + 2) * 2 + 3 ≤ 29; decide)).mono (by decide) (by rw [List.length_map, List.length_map]; have := g.l; omega)
  have h2 : SmallD 4 159 (.tuple (hs.map PyData.int)) := (small_tup (k := 2) (s := 11) fun d hd => by
    obtain ⟨x, hx, rfl⟩ := List.mem_map.mp hd
    have := g.d x hx
    exact small_int (by omega) (by omega)).mono (by decide) (by rw [List.length_map]; have := g.h1; omega)
  exact (small_tup (k := 6) (s := 159) (ds := [_, _]) fun d hd => by
    simp only [List.mem_cons, List.not_mem_nil, or_false] at hd
    rcases hd with rfl | rfl
    · exact h1.mono (by decide) (by decide)
    · exact h2.mono (by decide) (by decide)).mono (by decide) (by show (159 + 2) * 2 + 3 ≤ 325; decide)
theorem state_facts {ps : List (Int × Int)} {hs ns : List Int} {t : Int} (g : Good ps hs) (t0 : 0 ≤ t) (t1 : t < 10 ^ 9) (hl : ns.length ≤ 1000) {L : Nat} (hL : L ≤ 11) : (PyData.list [rulesP ps hs, .int t, .tuple ((cntL ns t L).map PyData.int), .int ((ns.count t : Nat) : Int)]).showable = true ∧ (PyData.list [rulesP ps hs, .int t, .tuple ((cntL ns t L).map PyData.int), .int ((ns.count t : Nat) : Int)]).depth ≤ 60 ∧ (PyData.list [rulesP ps hs, .int t, .tuple ((cntL ns t L).map PyData.int), .int ((ns.count t : Nat) : Int)]).shown.length ≤ sizeLine := by
  have hc : ∀ x : Int, ns.count x ≤ 1000 := fun x => Nat.le_trans List.count_le_length hl
  have h2 : SmallD 8 325 (.int t) := (small_int t0 (by omega)).mono (by decide) (by decide)
  have h3 : SmallD 8 325 (.tuple ((cntL ns t L).map PyData.int)) := (small_tup (k := 2) (s := 11) fun d hd => by
    obtain ⟨x, hx, rfl⟩ := List.mem_map.mp hd
    unfold cntL at hx
    obtain ⟨j, _, rfl⟩ := List.mem_map.mp hx
    have := hc (t - 1 - (j : Int))
    exact small_int (by omega) (by omega)).mono (by decide) (by rw [List.length_map, cntL_len]; omega)
  have h4 : SmallD 8 325 (.int ((ns.count t : Nat) : Int)) := (small_int (by omega) (by have := hc t; omega)).mono (by decide) (by decide)
  exact (small_lst (k := 8) (s := 325) (ds := [_, _, _, _]) fun d hd => by
    simp only [List.mem_cons, List.not_mem_nil, or_false] at hd
    rcases hd with rfl | rfl | rfl | rfl
    · exact small_rules g
    · exact h2
    · exact h3
    · exact h4).facts (by decide) (by show (325 + 2) * 4 + 3 ≤ 5000; decide)
theorem mt_lcountB {X : Cx} {s : Shared} {H : Hp} {sc : Scope} {en : Env} {fp : List Addr} : MtR (X.blk s H sc en fp) "list.count" (L2.rCntI X.K) := mt_lcount
section
variable {P : Program} {w : World} {K : PySem.W.Frag} {mg : Str → Option Value} {base : Heap} {C : Addr}
theorem sc_lstate : FnScope ["_law_monitor", "_law_pairs", "_law_clock", "_law_state", "_law_now", "_law_row", "_law_span", "_law_counts", "_law_told", "_law_back", "_law_pair"] ["_law_monitor", "_law_pairs", "_law_clock", "_law_state"] (defScope s_l_state_right) := ⟨rfl, rfl, rfl, by decide +kernel, rfl, by decide +kernel, by decide +kernel⟩
theorem ok_lstate (T : D K mg) (hM : SysM K) : FnQ P w K mg base CX0 3 T.f_l_state_right T.d_l_state_right ["_law_monitor", "_law_pairs", "_law_clock", "_law_state"] (spState T) := by
  refine funQ T.U_l_state_right sc_lstate (fun vs H Q E h => ?_) (fun cdv A outer s H vs Q E hgu hr h => ?_)
  · obtain ⟨a, ea, k, rv, lv, hv, sv, ps, hs, ns, t, rfl, _⟩ := h
    rfl
  · obtain ⟨a, ea, kk, rv, lv, hv, sv, ps, hs, ns, t, rfl, hMo, g, oL, oH, ⟨x, r, rfl, ex, er⟩, t0, t1, hl, k⟩ := h
    have nd := sc_lstate.nd
    have hu64 : (A.deeper (envOfC "_law_state_right" (defScope s_l_state_right) s.heap.objs.size T.f_l_state_right cdv)).units + 64 < cLine := hr.units
    have mz : 5000 ≤ sizeLine := by decide
    refine ⟨_, pss_cons (ps_asg (pv 3) (pg_tup rfl (pgs_cons (pg_name (i := 4) nd rfl (.inr rfl)) (pgs_cons (pg_name (i := 5) nd rfl (.inr rfl)) pgs_nil))))
      (pss_cons (ps_set (i := 6) nd rfl (.inl rfl) (pe_op op_sub (pe_callB (cr_max rfl) (by rfl) T.max (by decide +kernel) (pa_cons (pe_op op_cat (pe_lc (own := [("_law_pair", 10)]) (g := gName 10) (tt := tYes) rfl nd (pi_tup (pv 1)) (blkOk_by (N := ["_law_monitor", "_law_pairs", "_law_clock", "_law_state", "_law_now", "_law_row", "_law_span", "_law_counts", "_law_told", "_law_back", "_law_pair"]) (sc := defScope s_l_state_right) (by decide +kernel)) (fun _ _ _ _ _ => pg_name (i := 10) nd rfl (.inl rfl)) (fun _ _ _ _ _ => pts_nil) (fun _ _ _ _ _ => pe_ix ix_tupB (pv 10) pe_int (fun _ _ => rfl))) (pe_lst (pa_cons pe_int pa_nil))) pa_nil)) pe_int))
      (pss_cons (ps_set (i := 7) nd rfl (.inl rfl) (pe_callTy call_tuple_of (by rfl) T.tuple (by decide +kernel) (pa_cons (pe_lc (own := [("_law_back", 9)]) (g := gName 9) (tt := tYes) rfl nd (pi_range2 rfl T.range (pa_cons pe_int (pa_cons (pe_op op_add (pv 6) pe_int) pa_nil))) (blkOk_by (N := ["_law_monitor", "_law_pairs", "_law_clock", "_law_state", "_law_now", "_law_row", "_law_span", "_law_counts", "_law_told", "_law_back", "_law_pair"]) (sc := defScope s_l_state_right) (by decide +kernel)) (fun _ _ _ _ _ => pg_name (i := 9) nd rfl (.inl rfl)) (fun _ _ _ _ _ => pts_nil) (fun _ _ _ _ _ => pe_bmB PySem.F.plainAttrs_list PySem.F.slot_list_count PySem.F.type_list_count mt_lcountB (pv 5) (pa_cons (pe_op op_sub (pv 4) (pv 9)) pa_nil))) pa_nil)))
      (pss_cons (ps_set (i := 8) nd rfl (.inl rfl) (pe_lst (pa_cons (pe_prop (pv 0) T.cl_Monitor T.Pr_rules (ok_rulm T) (hr.mono (by decide)) T.b_rules .nil pass0 rfl) (pa_cons (pe_prop (pv 0) T.cl_Monitor T.Pr_moment (ok_momm T) (hr.mono (by decide)) T.b_moment .nil pass0 rfl) (pa_cons (pe_prop (pv 0) T.cl_Monitor T.Pr_counts (ok_cntm T) (hr.mono (by decide)) T.b_counts .nil pass0 rfl) (pa_cons (pe_prop (pv 0) T.cl_Monitor T.Pr_asked (ok_askdm T) (hr.mono (by decide)) T.b_asked .nil pass0 rfl) pa_nil))))))
      (pss_one (ps_ret (pe_cmpR op_eq (pe_callB (call_reprD hgu hu64 hM) (by rfl) T.repr (by decide +kernel) (pa_cons (pv 8) pa_nil)) (pe_callB (call_reprD hgu hu64 hM) (by rfl) T.repr (by decide +kernel) (pa_cons (pe_lst (pa_cons (pe_tup (pa_cons (pv 1) (pa_cons (pv 2) pa_nil))) (pa_cons (pv 4) (pa_cons (pv 7) (pa_cons (pe_bm PySem.F.plainAttrs_list PySem.F.slot_list_count PySem.F.type_list_count mt_lcount (pv 5) (pa_cons (pv 4) pa_nil)) pa_nil))))) pa_nil)) (nomark _))))))), ?_⟩
    have g1 := span_bound g.lim
    refine ⟨_, rfl, x, _, rfl, SqT.of ex, rfl, _, _, rfl, _, _, rfl, rfl, ?_⟩
    dsimp only
    obtain ⟨la, ls, rfl, el, ol⟩ := od_tup oL
    have lls : ls.length = ps.length := by rw [ol.len, List.length_map, List.length_map]
    refine ⟨_, rfl, la, rfl, ⟨_, SqT.of el⟩, fun Dn hDn => lc_tup (K := K) (a := la) (xs := ls) (fun i Hx => Same H Hx ∧ Hx Dn = some (.lst (((ps.take i).map Prod.snd).map V.int))) ⟨same_upd hDn, upd_same⟩ (fun i Hx _ q => SqT.of (q.1 _ _ el)) ?_ ?_⟩
    · rintro i x Hx hx ⟨sx, ex⟩
      obtain ⟨q, b, hqm, rfl, eb⟩ := pair_at ol hx
      refine ⟨rfl, ?_⟩
      unfold tYes
      dsimp only
      rw [if_pos rfl]
      refine ⟨_, rfl, b, _, 1, _, rfl, rfl, SqT.of (sx _ _ eb), rfl, _, ex, by rw [List.length_map, List.length_map, List.length_take]; have := g.l; omega, same_into hDn sx, ?_⟩
      rw [upd_same, List.take_add_one, hqm, List.map_append, List.map_append]
      rfl
    · rintro H5 ⟨s5, e5⟩
      rw [lls, List.take_length] at e5
      refine ⟨by show 1 ≤ sizeLine; omega, fun c1 hc1 => ?_⟩
      have s6 := same_upd (o := HO.lst [V.int 1]) hc1
      refine ⟨Dn, c1, _, _, rfl, rfl, s6 _ _ e5, upd_same, by rw [List.length_map, List.length_map]; have := g.l; show _ + 1 ≤ sizeLine; omega, fun c2 hc2 => ?_⟩
      have s7 := same_upd (o := HO.lst (((ps.map Prod.snd).map V.int) ++ [V.int 1])) hc2
      have e7 : (((ps.map Prod.snd).map V.int) ++ [V.int 1]) = ((ps.map Prod.snd) ++ [1]).map V.int := by rw [List.map_append]; rfl
      refine ⟨c2, (ps.map Prod.snd) ++ [1], rfl, SqL.of (by rw [upd_same, e7]), by simp, fun M hM hle => ⟨_, _, rfl, rfl, gn ?_⟩⟩
      dsimp only
      rw [span_max (fun q hq => (show 1 ≤ q.2 from by have := g.p q hq; omega)) hM hle]
      have s07 := s5.trans (s6.trans s7)
      generalize upd (upd H5 c1 (.lst [V.int 1])) c2 (.lst (((ps.map Prod.snd).map V.int) ++ [V.int 1])) = H7 at *
      clear s5 s6 s7 e5 hc1 hc2 hDn hM hle
      obtain ⟨L, hLs⟩ : ∃ L : Nat, spanP ps = (L : Nat) := ⟨(spanP ps).toNat, by omega⟩
      rw [hLs]
      refine ⟨_, rfl, _, _, rfl, rfl, 1, (L : Int) + 1, rfl, by omega, fun D2 h2 => lc_range (n := _) (fun i Hx => Same H7 Hx ∧ Hx D2 = some (.lst (((List.range i).map fun (j : Nat) => ((ns.count (t - 1 - (j : Int)) : Nat) : Int)).map V.int))) ⟨same_upd h2, upd_same⟩ ?_ ?_⟩
      · rintro i Hx hi ⟨sx, ex2⟩
        refine ⟨rfl, ?_⟩
        unfold tYes
        dsimp only
        rw [if_pos rfl]
        refine ⟨_, rfl, .inl ⟨rfl, _, SqL.of ((s07.trans sx) _ _ er)⟩, _, rfl, _, rfl, _, _, rfl, rfl, r, ns, _, rfl, rfl, SqL.of ((s07.trans sx) _ _ er), _, ex2, ?_, same_into h2 sx, ?_⟩
        · rw [List.length_map, List.length_map, List.length_range]
          omega
        · rw [upd_same, List.range_succ, List.map_append, List.map_append, show t - (1 + (i : Int)) = t - 1 - (i : Int) by omega]
          rfl
      · rintro Hx ⟨sx, ex2⟩
        rw [show ((L : Int) + 1 - 1).toNat = L by omega] at ex2
        refine ⟨D2, _, rfl, .inl ⟨SqL.of ex2, fun R hR => gn ?_⟩⟩
        have sR := same_upd (o := HO.tup (((List.range L).map fun (j : Nat) => ((ns.count (t - 1 - (j : Int)) : Nat) : Int)).map V.int)) hR
        have eR : upd Hx R (.tup (((List.range L).map fun (j : Nat) => ((ns.count (t - 1 - (j : Int)) : Nat) : Int)).map V.int)) R = some (.tup ((cntL ns t L).map V.int)) := upd_same
        have s0 := s07.trans (sx.trans sR)
        generalize upd Hx R (.tup (((List.range L).map fun (j : Nat) => ((ns.count (t - 1 - (j : Int)) : Nat) : Int)).map V.int)) = H8 at *
        clear s07 sx sR ex2 h2 hR
        have hMx := hMo.same s0
        obtain ⟨dx, cv, es, k1, k2, k3, k4, k5⟩ := id hMx
        have eLn : (spanP ps).toNat = L := by omega
        dsimp only
        refine ⟨_, rfl, a, _, _, rfl, k1, a, ea, kk, rv, ps, hs, ns, t, rfl, hMx, ?_⟩
        refine ⟨_, rfl, a, _, _, rfl, k1, a, ea, kk, rv, ps, hs, ns, t, rfl, hMx, ?_⟩
        refine ⟨_, rfl, a, _, _, rfl, k1, a, ea, kk, rv, ps, hs, ns, t, rfl, hMx, fun c3 iz3 => ?_⟩
        rw [eLn] at iz3
        refine ⟨_, rfl, a, _, _, rfl, k1, a, ea, kk, rv, ps, hs, ns, t, rfl, hMx, ?_⟩
        obtain ⟨f1, f2, f3⟩ := state_facts g t0 t1 hl (L := L) (by omega)
        refine ⟨by show 4 ≤ sizeLine; omega, fun q hq => gn ?_⟩
        have sq := same_upd (o := HO.lst [rv, V.int t, c3, V.int ((ns.count t : Nat) : Int)]) hq
        have d1 : Od (upd H8 q (.lst [rv, V.int t, c3, V.int ((ns.count t : Nat) : Int)])) (.ref q) (.list [rulesP ps hs, .int t, .tuple ((cntL ns t L).map PyData.int), .int ((ns.count t : Nat) : Int)]) := .lst upd_same (.cons (k5.same sq) (.cons (.int _) (.cons (iz3.same sq).od (.cons (.int _) .nil))))
        have s9 := s0.trans sq
        have eR9 := sq _ _ eR
        generalize upd H8 q (.lst [rv, V.int t, c3, V.int ((ns.count t : Nat) : Int)]) = H9 at *
        clear sq s0 eR hq k1 k2 k3 k4 k5 hMx
        dsimp only
        refine ⟨_, rfl, _, _, rfl, d1.dq, f1, f2, f3, ?_⟩
        refine ⟨_, rfl, _, rfl, by show 2 ≤ sizeLine; omega, fun y hy => ?_⟩
        have sy := same_upd (o := HO.tup [V.ref la, hv]) hy
        have oR : Od (upd H9 y (.tup [V.ref la, hv])) (.ref y) (rulesP ps hs) := .tup upd_same (.cons ((oL.same s9).same sy) (.cons ((oH.same s9).same sy) .nil))
        have s10 := s9.trans sy
        have eR10 := sy _ _ eR9
        generalize upd H9 y (.tup [V.ref la, hv]) = H10 at *
        refine ⟨_, rfl, _, rfl, _, rfl, .inl ⟨rfl, _, SqL.of (s10 _ _ er)⟩, _, rfl, r, ns, _, rfl, rfl, SqL.of (s10 _ _ er), by show 4 ≤ sizeLine; omega, fun z hz => ?_⟩
        have sz := same_upd (o := HO.lst [V.ref y, V.int t, V.ref R, V.int ((ns.count t : Nat) : Int)]) hz
        have d2 : Od (upd H10 z (.lst [V.ref y, V.int t, V.ref R, V.int ((ns.count t : Nat) : Int)])) (.ref z) (.list [rulesP ps hs, .int t, .tuple ((cntL ns t L).map PyData.int), .int ((ns.count t : Nat) : Int)]) := .lst upd_same (.cons (oR.same sz) (.cons (.int _) (.cons (show IsI _ (.ref R) (cntL ns t L) from ⟨R, rfl, sz _ _ eR10⟩).od (.cons (.int _) .nil))))
        refine ⟨_, _, rfl, d2.dq, f1, f2, f3, rfl, ?_⟩
        rw [decide_eq_true rfl]
        exact k _ (s10.trans sz)
end
end KP

set_option Elab.async false
set_option maxRecDepth 100000
set_option maxHeartbeats 4000000
set_option linter.all false
/-! Ours: the law's own states; calls by name. -/
namespace KP
open PySem PySem.Spec PyProof.Rows L2 Gr GxR
/-- a state of the law's own: its row avoids X -/
def StX (H : Hp) (X : List Addr) (v : V) (e : List Int × Int) : Prop := ∃ (x r : Addr), v = .ref x ∧ H x = some (.tup [.int e.2, .ref r]) ∧ H r = some (.lst (e.1.map V.int)) ∧ r ∉ X
theorem StX.v {H : Hp} {X : List Addr} {v : V} {e : List Int × Int} (h : StX H X v e) : StV H v e := by
  obtain ⟨x, r, a, b, c, _⟩ := h
  exact ⟨x, r, a, b, c⟩
theorem StX.fr {H H' : Hp} {X Y : List Addr} {v : V} {e : List Int × Int} (h : StX H X v e) (s : ∀ b o, H b = some o → b ∉ Y → H' b = some o) (t : TupStay H H') (hY : ∀ y ∈ Y, y ∈ X) : StX H' X v e := by
  obtain ⟨x, r, a, b, c, d⟩ := h
  exact ⟨x, r, a, t _ _ b, s _ _ c fun z => d (hY _ z), d⟩
theorem StX.sub {H : Hp} {X Y : List Addr} {v : V} {e : List Int × Int} (h : StX H X v e) (s : ∀ y ∈ Y, y ∈ X) : StX H Y v e := by
  obtain ⟨x, r, a, b, c, d⟩ := h
  exact ⟨x, r, a, b, c, fun z => d (s _ z)⟩
theorem StX.more {H : Hp} {X : List Addr} {p : Addr} {v : V} {e : List Int × Int} (h : StX H X v e) (n : H p = none) : StX H (p :: X) v e := by
  obtain ⟨x, r, a, b, c, d⟩ := h
  refine ⟨x, r, a, b, c, fun z => ?_⟩
  rcases List.mem_cons.mp z with rfl | z
  · rw [n] at c; cases c
  · exact d z
def LsAt (H : Hp) (X : List Addr) : List V → List (List Int × Int) → Prop
  | [], [] => True
  | v :: es, e :: st => StX H X v e ∧ LsAt H X es st
  | _, _ => False
theorem LsAt.len {H : Hp} {X : List Addr} : ∀ {es : List V} {st : List (List Int × Int)}, LsAt H X es st → es.length = st.length
  | [], [], _ => rfl
  | _ :: _, _ :: _, h => by rw [List.length_cons, List.length_cons, LsAt.len h.2]
  | [], _ :: _, h => h.elim
  | _ :: _, [], h => h.elim
theorem LsAt.map {H H' : Hp} {X X' : List Addr} (f : ∀ v e, StX H X v e → StX H' X' v e) : ∀ {es : List V} {st : List (List Int × Int)}, LsAt H X es st → LsAt H' X' es st
  | [], [], _ => trivial
  | _ :: _, _ :: _, h => ⟨f _ _ h.1, LsAt.map f h.2⟩
  | [], _ :: _, h => h.elim
  | _ :: _, [], h => h.elim
theorem LsAt.snoc {H : Hp} {X : List Addr} {v : V} {e : List Int × Int} (k : StX H X v e) : ∀ {es : List V} {st : List (List Int × Int)}, LsAt H X es st → LsAt H X (es ++ [v]) (st ++ [e])
  | [], [], _ => ⟨k, trivial⟩
  | _ :: _, _ :: _, h => ⟨h.1, LsAt.snoc k h.2⟩
  | [], _ :: _, h => h.elim
  | _ :: _, [], h => h.elim
theorem LsAt.back {H : Hp} {X : List Addr} {e : List Int × Int} : ∀ {es : List V} {st : List (List Int × Int)}, LsAt H X es (st ++ [e]) → ∃ es' v, es = es' ++ [v] ∧ LsAt H X es' st ∧ StX H X v e
  | [v], [], h => ⟨[], v, rfl, trivial, h.1⟩
  | v :: _ :: _, [], h => h.2.elim
  | v :: es, x :: st, h => by
    obtain ⟨es', w, e1, e2, e3⟩ := LsAt.back h.2
    exact ⟨v :: es', w, by rw [e1]; rfl, ⟨h.1, e2⟩, e3⟩
  | [], [], h => h.elim
  | [], _ :: _, h => h.elim
theorem LsAt.fr {H H' : Hp} {X Y : List Addr} {es : List V} {st : List (List Int × Int)} (h : LsAt H X es st) (s : ∀ b o, H b = some o → b ∉ Y → H' b = some o) (t : TupStay H H') (hY : ∀ y ∈ Y, y ∈ X) : LsAt H' X es st := h.map fun _ _ k => k.fr s t hY
/-- what is so of all states that were come to -/
def Oks (ps : List (Int × Int)) (hs : List Int) (n : Nat) (st : List (List Int × Int)) : Prop := st.length ≤ n + 1 ∧ ∀ e ∈ st, Stn ps hs e.1 e.2 ∧ e.1.length ≤ 4 * n ∧ e.2 ≤ 10 + 8 * (n : Int)
theorem Oks.step {ps : List (Int × Int)} {hs : List Int} {n : Nat} {st : List (List Int × Int)} (h : Oks ps hs n st) : Oks ps hs (n + 1) st := ⟨by have := h.1; omega, fun e he => by
  obtain ⟨a, b, c⟩ := h.2 e he
  exact ⟨a, by omega, by omega⟩⟩
theorem Oks.put {ps : List (Int × Int)} {hs : List Int} {n : Nat} {st : List (List Int × Int)} {e : List Int × Int} (h : Oks ps hs n st) (s : Stn ps hs e.1 e.2) (a : e.1.length ≤ 4 * (n + 1)) (b : e.2 ≤ 10 + 8 * ((n : Int) + 1)) : Oks ps hs (n + 1) (st ++ [e]) := ⟨by rw [List.length_append]; have := h.1; show _ + 1 ≤ _; omega, fun x hx => by
  rcases List.mem_append.mp hx with hx | hx
  · exact h.step.2 x hx
  · rw [List.mem_singleton.mp hx]
    exact ⟨s, a, by omega⟩⟩
theorem Oks.drop {ps : List (Int × Int)} {hs : List Int} {n : Nat} {st : List (List Int × Int)} {e : List Int × Int} (h : Oks ps hs n (st ++ [e])) : Oks ps hs n st := ⟨by have := h.1; rw [List.length_append] at this; omega, fun x hx => h.2 x (List.mem_append_left _ hx)⟩
section
variable {K : PySem.W.Frag} {mg : Str → Option Value}
theorem k_lets (T : D K mg) : KBn K T.d_lets ["self", "moment", "many"] 2 ["many"] (fun us ws => us ++ ws) (fun vs zs => vs ++ zs) :=
  kbinds1 T.W_lets 2 ["many"] (by decide) fun _ _ _ _ _ _ _ us ws its h1 h2 h3 => match us, ws, its, h1, h2, h3 with
    | [_, _], [_], [_], _, _, _ => ⟨_, rfl, rfl⟩
theorem k_init (T : D K mg) : ∃ mv : List Value, KBn K T.d_init ["self", "rules", "moment"] 2 ["moment"] (fun us ws => (fun us _ ws => us ++ ws) us mv ws) (fun vs zs => (fun vs _ zs => vs ++ zs) vs (([] : List (Str × V)).map (·.2)) zs) :=
  T.W_init.kbinds0 2 ["moment"] [] (fun us _ ws => us ++ ws) (by decide) (fun _ h => nomatch h) (fun a _ c => a.append c) fun D doc pm an cdv ct us mv ws h1 h2 h3 => match us, mv, ws, h1, h2, h3 with
    | [_, _], [], [_], _, _, _ => rfl
end
end KP

set_option Elab.async false
set_option maxRecDepth 100000
set_option maxHeartbeats 4000000
set_option linter.all false
/-! Ours: where a deed stands. -/
namespace KP
open PySem PySem.Spec PyProof.Rows L2 Gr GxR
section
variable {K : PySem.W.Frag} {mg : Str → Option Value}
structure Cur (T : D K mg) (H : Hp) (p a ea sa : Addr) (X : List Addr) (stk : List (List Int × Int)) (rv lv hv : V) (ps : List (Int × Int)) (hs ns : List Int) (t : Int) (vl : List V) : Prop where
  w : Well H p
  m : MonS T H a ea stk rv ps hs ns t
  l : H sa = some (.lst vl)
  r : LsAt H X vl (stk ++ [(ns, t)])
  oL : Od H lv (.tuple ((ps.map inD).map tw))
  oH : Od H hv (.tuple (hs.map PyData.int))
structure Aprt (p a ea sa : Addr) (X : List Addr) : Prop where
  ae : a ≠ ea
  ha : sa ≠ a
  he : sa ≠ ea
  pa : p ≠ a
  pe : p ≠ ea
  pw : p ≠ sa
  x : ∀ y ∈ [p, a, ea, sa], y ∈ X
variable {T : D K mg} {H H' H'' : Hp} {p a ea sa : Addr} {X : List Addr} {stk : List (List Int × Int)} {rv lv hv : V} {ps : List (Int × Int)} {hs ns : List Int} {t : Int} {vl : List V}
theorem ts_of {Y : List Addr} (f : ∀ b o, H b = some o → b ∉ Y → H' b = some o) (k : ∀ y ∈ Y, ∀ xs, H y ≠ some (.tup xs)) : TupStay H H' := fun b xs e => f _ _ e fun z => k _ z xs e
theorem Cur.ntup (c : Cur T H p a ea sa X stk rv lv hv ps hs ns t vl) : ∀ y ∈ [p, a, ea, sa], ∀ xs, H y ≠ some (.tup xs) := fun y hy xs e => by
  obtain ⟨_, _, _, ew⟩ := c.w
  obtain ⟨dx, cv, es, h1, h2, _⟩ := c.m
  simp only [List.mem_cons, List.not_mem_nil, or_false] at hy
  rcases hy with rfl | rfl | rfl | rfl
  · rw [ew] at e; cases e
  · rw [h1] at e; cases e
  · rw [h2] at e; cases e
  · rw [c.l] at e; cases e
theorem Cur.same (c : Cur T H p a ea sa X stk rv lv hv ps hs ns t vl) (s : Same H H') : Cur T H' p a ea sa X stk rv lv hv ps hs ns t vl :=
  ⟨c.w.same s, c.m.same s, s _ _ c.l, c.r.fr (Y := []) (fun b o e _ => s b o e) (same_ts s) (fun _ h => nomatch h), c.oL.same s, c.oH.same s⟩
theorem but_fr {b0 : Addr} (b : But H H' b0) : ∀ b o, H b = some o → b ∉ [b0] → H' b = some o := fun x o e n => b x o e fun z => n (by rw [z]; exact List.mem_singleton.mpr rfl)
theorem tup_lims' (ps : List (Int × Int)) : tupD (.tuple ((ps.map inD).map tw)) = true := tupD_tup fun d hd => by
  obtain ⟨q, hq, rfl⟩ := List.mem_map.mp hd
  obtain ⟨p, _, rfl⟩ := List.mem_map.mp hq
  simp [tw, inD, tupD, tupDs]
theorem Cur.but (c : Cur T H p a ea sa X stk rv lv hv ps hs ns t vl) (ap : Aprt p a ea sa X) (b : But H H' p) (w : Well H' p) : Cur T H' p a ea sa X stk rv lv hv ps hs ns t vl := by
  have ts : TupStay H H' := ts_of (but_fr b) fun y hy xs e => by
    rw [List.mem_singleton.mp hy] at e
    exact c.ntup p List.mem_cons_self xs e
  obtain ⟨dx, cv, es, h1, h2, _⟩ := id c.m
  exact ⟨w, c.m.ts ts ((b _ _ h1 (Ne.symm ap.pa)).trans h1.symm) ((b _ _ h2 (Ne.symm ap.pe)).trans h2.symm), b _ _ c.l (Ne.symm ap.pw), c.r.fr (but_fr b) ts (fun y hy => by rw [List.mem_singleton.mp hy]; exact ap.x p List.mem_cons_self), c.oL.ts ts (tup_lims' ps), c.oH.ts ts (tupD_ints hs)⟩
/-- all but four stays -/
def Fr (p a ea sa : Addr) (H H' : Hp) : Prop := ∀ b o, H b = some o → b ∉ [p, a, ea, sa] → H' b = some o
theorem Fr.trans (f : Fr p a ea sa H H') (g : Fr p a ea sa H' H'') : Fr p a ea sa H H'' := fun b o e n => g b o (f b o e n) n
theorem Fr.same (s : Same H H') : Fr p a ea sa H H' := fun b o e _ => s b o e
theorem Fr.but (b : But H H' p) : Fr p a ea sa H H' := fun x o e n => b x o e fun z => n (by rw [z]; exact List.mem_cons_self)
theorem Cur.alloc (c : Cur T H' p a ea sa X stk rv lv hv ps hs ns t vl) (f : Fr p a ea sa H H') (h : ∀ y ∈ X, H y ≠ none) : ∀ y ∈ X, H' y ≠ none := fun y hy z => by
  by_cases q : y ∈ [p, a, ea, sa]
  · obtain ⟨_, _, _, ew⟩ := c.w
    obtain ⟨dx, cv, es, h1, h2, _⟩ := c.m
    simp only [List.mem_cons, List.not_mem_nil, or_false] at q
    rcases q with rfl | rfl | rfl | rfl
    · rw [ew] at z; cases z
    · rw [h1] at z; cases z
    · rw [h2] at z; cases z
    · rw [c.l] at z; cases z
  · cases e : H y with
    | none => exact h y hy e
    | some o =>
      rw [f y o e q] at z
      cases z
theorem Cur.next {stk0 stk' : List (List Int × Int)} {ns0 ns' : List Int} {t0 t' : Int} {vl' : List V} (w : Well H p) (m0 : MonS T H a ea stk0 rv ps hs ns0 t0) (l : H sa = some (.lst vl')) (r : LsAt H X vl' (stk' ++ [(ns', t')])) (oL : Od H lv (.tuple ((ps.map inD).map tw))) (oH : Od H hv (.tuple (hs.map PyData.int))) (ap : Aprt p a ea sa X)
    (fr : ∀ b o, H b = some o → b ≠ a → b ≠ ea → H' b = some o) (m : MonS T H' a ea stk' rv ps hs ns' t') : Cur T H' p a ea sa X stk' rv lv hv ps hs ns' t' vl' := by
  obtain ⟨dx, cv, es, h1, h2, _⟩ := m0
  have fr2 : ∀ b o, H b = some o → b ∉ [a, ea] → H' b = some o := fun b o e n => fr b o e (fun z => n (by rw [z]; exact List.mem_cons_self)) (fun z => n (by rw [z]; exact List.mem_cons_of_mem _ List.mem_cons_self))
  have ts : TupStay H H' := ts_of fr2 fun y hy xs e => by
    simp only [List.mem_cons, List.not_mem_nil, or_false] at hy
    rcases hy with rfl | rfl
    · rw [h1] at e; cases e
    · rw [h2] at e; cases e
  obtain ⟨x, y, z, ew⟩ := w
  exact ⟨⟨x, y, z, fr _ _ ew ap.pa ap.pe⟩, m, fr _ _ l ap.ha ap.he, r.fr fr2 ts (fun y hy => ap.x y (by simp only [List.mem_cons, List.not_mem_nil, or_false] at hy ⊢; rcases hy with rfl | rfl <;> simp)), oL.ts ts (tup_lims' ps), oH.ts ts (tupD_ints hs)⟩
theorem atI_end (l : List V) (v : V) : atI (l ++ [v]) (-1) = some v := by
  unfold atI ixN
  rw [if_neg (by decide), if_pos (by rw [List.length_append]; show -((l.length + 1 : Nat) : Int) ≤ -1; omega)]
  show (l ++ [v])[((((l ++ [v]).length : Nat) : Int) + -1).toNat]? = some v
  rw [show ((((l ++ [v]).length : Nat) : Int) + -1).toNat = l.length by rw [List.length_append]; show (((l.length + 1 : Nat) : Int) + -1).toNat = _; omega]
  simp
def spDeed (T : D K mg) : Sp := fun vs H Q _ => ∃ (p a ea sa : Addr) (lv hv rv : V) (X : List Addr) (stk : List (List Int × Int)) (ps : List (Int × Int)) (hs ns : List Int) (t : Int) (vl : List V) (n : Nat),
  vs = [.ref p, .ref a, lv, hv, .ref sa] ∧ Cur T H p a ea sa X stk rv lv hv ps hs ns t vl ∧ Aprt p a ea sa X ∧ Oks ps hs n (stk ++ [(ns, t)]) ∧ n ≤ 45 ∧ Good ps hs ∧ (∀ q ∈ ps, q.2 ≤ 7) ∧ (∀ y ∈ X, H y ≠ none) ∧
  ∀ H' vl' stk' ns' t', Fr p a ea sa H H' → Cur T H' p a ea sa X stk' rv lv hv ps hs ns' t' vl' → Oks ps hs (n + 1) (stk' ++ [(ns', t')]) → Q (.bl true) H'
end
end KP

set_option Elab.async false
set_option maxRecDepth 100000
set_option maxHeartbeats 8000000
set_option linter.all false
/-! Ours: one deed. -/
namespace KP
open PySem PySem.Spec PyProof.Rows L2 Gr GxR
theorem small_bl (b : Bool) : SmallD 2 11 (.bool b) := by cases b <;> exact ⟨rfl, by decide +kernel, by decide +kernel⟩
theorem tri_bl (b c d : Bool) : (PyData.list [.bool b, .bool c, .bool d]).showable = true ∧ (PyData.list [.bool b, .bool c, .bool d]).depth ≤ 60 ∧ (PyData.list [.bool b, .bool c, .bool d]).shown.length ≤ sizeLine :=
  (small_lst (k := 2) (s := 11) (ds := [_, _, _]) fun x hx => by
    simp only [List.mem_cons, List.not_mem_nil, or_false] at hx
    rcases hx with rfl | rfl | rfl
    · exact small_bl b
    · exact small_bl c
    · exact small_bl d).facts (by decide) (by show (11 + 2) * 3 + 3 ≤ 5000; decide)
theorem LsAt.init {H : Hp} {X : List Addr} {es : List V} {v : V} {st : List (List Int × Int)} {e : List Int × Int} (h : LsAt H X (es ++ [v]) (st ++ [e])) : LsAt H X es st := by
  obtain ⟨es', w, e1, e2, _⟩ := h.back
  have q : (es ++ [v]).dropLast = (es' ++ [w]).dropLast := by rw [e1]
  rw [List.dropLast_concat, List.dropLast_concat] at q
  rw [q]
  exact e2
section
variable {P : Program} {w : World} {K : PySem.W.Frag} {mg : Str → Option Value} {base : Heap} {C : Addr}
theorem sc_ldeed : FnScope ["_law_well_here", "_law_monitor", "_law_pairs", "_law_clock", "_law_states", "_law_now", "_law_row", "_law_way", "_law_time", "_law_number", "_law_is_let", "_law_told", "_law_due", "_law_is_there"] ["_law_well_here", "_law_monitor", "_law_pairs", "_law_clock", "_law_states"] (defScope s_l_deed_right) := ⟨rfl, rfl, rfl, by decide +kernel, rfl, by decide +kernel, by decide +kernel⟩
theorem ok_ldeed (T : D K mg) (B : BarF K mg C) (hM : SysM K) : FnQ P w K mg base CX0 9 T.f_l_deed_right T.d_l_deed_right ["_law_well_here", "_law_monitor", "_law_pairs", "_law_clock", "_law_states"] (spDeed T) := by
  refine funQ T.U_l_deed_right sc_ldeed (fun vs H Q E h => ?_) (fun cdv A outer s H vs Q E hgu hr h => ?_)
  · obtain ⟨p, a, ea, sa, lv, hv, rv, X, stk, ps, hs, ns, t, vl, n, rfl, _⟩ := h
    rfl
  · obtain ⟨p, a, ea, sa, lv, hv, rv, X, stk, ps, hs, ns, t, vl, n, rfl, hc, ap, oks, hn, g, hp7, hX, k⟩ := h
    have nd := sc_ldeed.nd
    have hu64 : (A.deeper (envOfC "_law_deed_right" (defScope s_l_deed_right) s.heap.objs.size T.f_l_deed_right cdv)).units + 64 < cLine := hr.units
    have mz : 5000 ≤ sizeLine := by decide
    obtain ⟨d1, v1, c1⟩ := T.b1_lets
    obtain ⟨d2, v2, c2⟩ := T.b1_soonest
    refine ⟨_, pss_cons (ps_asg (pe_ix ix_list (pv 4) (pe_un un_neg pe_int) (fun _ _ => rfl)) (pg_tup rfl (pgs_cons (pg_name (i := 5) nd rfl (.inl rfl)) (pgs_cons (pg_name (i := 6) nd rfl (.inl rfl)) pgs_nil))))
      (pss_cons (ps_par (i := 7) (j := 8) (by rfl) nd rfl rfl (by decide) rfl rfl (pa_cons (pe_call (ok_l_pick T) (hr.mono (by decide)) rfl T.g_l_pick T.U_l_pick.kp T.b_l_pick .nil pass0 (pa_cons (pv 0) (pa_cons pe_int pa_nil))) (pa_cons (pe_op op_add (pv 5) (pe_call (ok_l_one T) (hr.mono (by decide)) rfl T.g_l_one T.U_l_one.kp T.b_l_one .nil pass0 (pa_cons (pv 0) (pa_cons (pe_lst (pa_cons pe_int (pa_cons pe_int (pa_cons pe_int (pa_cons pe_int (pa_cons pe_int (pa_cons (pe_call (ok_l_pick T) (hr.mono (by decide)) rfl T.g_l_pick T.U_l_pick.kp T.b_l_pick .nil pass0 (pa_cons (pv 0) (pa_cons pe_int pa_nil))) pa_nil))))))) pa_nil)))) pa_nil)) (by rfl))
      (pss_cons (ps_set (i := 9) nd rfl (.inl rfl) (pe_call (ok_l_one T) (hr.mono (by decide)) rfl T.g_l_one T.U_l_one.kp T.b_l_one .nil pass0 (pa_cons (pv 0) (pa_cons (pe_lst (pa_cons pe_int (pa_cons pe_int (pa_cons pe_int (pa_cons pe_int (pa_cons pe_int (pa_cons pe_int (pa_cons pe_int pa_nil)))))))) pa_nil))))
      (pss_cons (ps_set (i := 10) nd rfl (.inl rfl) (pe_call (ok_lmay T) (hr.mono (by decide)) rfl T.g_l_may T.U_l_may.kp T.b_l_may .nil pass0 (pa_cons (pv 2) (pa_cons (pv 3) (pa_cons (pv 6) (pa_cons (pv 8) (pa_cons (pv 9) pa_nil)))))))
      (pss_cons (ps_if (pt_cmpR op_lt (pv 7) pe_int (nomark _))
        (pss_cons (ps_if (pt_val (pv 10))
          (pss_one (ps_expr (pe_bm PySem.F.plainAttrs_list PySem.F.slot_list_append PySem.F.type_list_append mt_append (pv 4) (pa_cons (pe_tup (pa_cons (pv 8) (pa_cons (pe_op op_cat (pv 6) (pe_op op_rep (pe_lst (pa_cons (pv 8) pa_nil)) (pv 9))) pa_nil))) pa_nil))))
          (pss_nil))
        (pss_one (ps_ret (pe_cmpR op_eq (pe_callB (call_reprD hgu hu64 hM) (by rfl) T.repr (by decide +kernel) (pa_cons (pe_call (ok_lasked T B) hr rfl T.g_l_asked T.U_l_asked.kp T.b_l_asked .nil pass0 (pa_cons (pv 1) (pa_cons (pv 8) (pa_cons (pv 9) pa_nil)))) pa_nil)) (pe_callB (call_reprD hgu hu64 hM) (by rfl) T.repr (by decide +kernel) (pa_cons (pe_ifExp (pt_val (pv 10)) pe_non (pe_tup (pa_cons pe_str pa_nil))) pa_nil)) (nomark _)))))
        (pss_nil))
      (pss_cons (ps_if (pt_cmpR op_eq (pv 7) pe_int (nomark _))
        (pss_cons (ps_set (i := 11) nd rfl (.inl rfl) (pe_lst (pa_cons (pe_meth (pv 1) T.cl_Monitor T.M_lets (ok_letm T) (hr.mono (by decide)) T.b_lets .nil pass0 (pa_cons (pv 8) (pa_cons (pv 9) pa_nil))) (pa_cons (pe_meth (pv 1) T.cl_Monitor T.M_lets (ok_letm T) (hr.mono (by decide)) c1 v1 pass0 (pa_cons (pv 8) pa_nil)) (pa_cons (pe_methKn (pv 1) T.cl_Monitor T.M_lets (ok_letm T) (hr.mono (by decide)) (k_lets T) pass0 (pa_cons (pv 8) pa_nil) (pk_cons (pe_op op_add (pv 9) pe_int) pk_nil)) pa_nil)))))
        (pss_cons (ps_set (i := 12) nd rfl (.inl rfl) (pe_lst (pa_cons (pv 10) (pa_cons (pe_call (ok_lmay T) (hr.mono (by decide)) rfl T.g_l_may T.U_l_may.kp T.b_l_may .nil pass0 (pa_cons (pv 2) (pa_cons (pv 3) (pa_cons (pv 6) (pa_cons (pv 8) (pa_cons pe_int pa_nil)))))) (pa_cons (pe_call (ok_lmay T) (hr.mono (by decide)) rfl T.g_l_may T.U_l_may.kp T.b_l_may .nil pass0 (pa_cons (pv 2) (pa_cons (pv 3) (pa_cons (pv 6) (pa_cons (pv 8) (pa_cons (pe_op op_add (pv 9) pe_int) pa_nil)))))) pa_nil)))))
        (pss_one (ps_ret (pe_cmpR op_eq (pe_callB (call_reprD hgu hu64 hM) (by rfl) T.repr (by decide +kernel) (pa_cons (pv 11) pa_nil)) (pe_callB (call_reprD hgu hu64 hM) (by rfl) T.repr (by decide +kernel) (pa_cons (pv 12) pa_nil)) (nomark _))))))
        (pss_nil))
      (pss_cons (ps_if (pt_cmpR op_eq (pv 7) pe_int (nomark _))
        (pss_cons (ps_set (i := 12) nd rfl (.inl rfl) (pe_callTy call_tuple_of (by rfl) T.tuple (by decide +kernel) (pa_cons (pe_call (ok_soon T) (hr.mono (by decide)) rfl T.g_l_soonest T.U_l_soonest.kp T.b_l_soonest .nil pass0 (pa_cons (pv 2) (pa_cons (pv 3) (pa_cons (pv 6) (pa_cons (pv 9) (pa_cons (pv 5) pa_nil)))))) pa_nil)))
        (pss_cons (ps_if (pt_cmpR op_ne (pe_callB (call_reprD hgu hu64 hM) (by rfl) T.repr (by decide +kernel) (pa_cons (pe_meth0 (pv 1) T.cl_Monitor T.M_soonest (ok_soonm T) (hr.mono (by decide)) c2 v2 pass0) pa_nil)) (pe_callB (call_reprD hgu hu64 hM) (by rfl) T.repr (by decide +kernel) (pa_cons (pe_callTy call_tuple_of (by rfl) T.tuple (by decide +kernel) (pa_cons (pe_call (ok_soon T) (hr.mono (by decide)) rfl T.g_l_soonest T.U_l_soonest.kp T.b_l_soonest .nil pass0 (pa_cons (pv 2) (pa_cons (pv 3) (pa_cons (pv 6) (pa_cons pe_int (pa_cons (pv 5) pa_nil)))))) pa_nil)) pa_nil)) (nomark _))
          (pss_one (ps_ret pe_bl))
          (pss_nil))
        (pss_one (ps_ret (pe_cmpR op_eq (pe_callB (call_reprD hgu hu64 hM) (by rfl) T.repr (by decide +kernel) (pa_cons (pe_meth (pv 1) T.cl_Monitor T.M_soonest (ok_soonm T) (hr.mono (by decide)) T.b_soonest .nil pass0 (pa_cons (pv 9) pa_nil)) pa_nil)) (pe_callB (call_reprD hgu hu64 hM) (by rfl) T.repr (by decide +kernel) (pa_cons (pv 12) pa_nil)) (nomark _))))))
        (pss_nil))
      (pss_cons (ps_set (i := 13) nd rfl (.inl rfl) (pe_cmpR op_gt (pe_callB call_len_seq (by rfl) T.len PySem.boot_len (pa_cons (pv 4) pa_nil)) pe_int (nomark _)))
      (pss_cons (ps_if (pt_val (pv 13))
        (pss_one (ps_expr (pe_bm0 PySem.F.plainAttrs_list PySem.F.slot_list_pop PySem.F.type_list_pop mt_pop (pv 4))))
        (pss_nil))
      (pss_one (ps_ret (pe_cmpR op_eq (pe_callB (call_reprD hgu hu64 hM) (by rfl) T.repr (by decide +kernel) (pa_cons (pe_meth0 (pv 1) T.cl_Monitor T.M_undo (ok_undo T) (hr.mono (by decide)) T.b_undo .nil pass0) pa_nil)) (pe_callB (call_reprD hgu hu64 hM) (by rfl) T.repr (by decide +kernel) (pa_cons (pv 13) pa_nil)) (nomark _)))))))))))), ?_⟩
    obtain ⟨vl', v, rfl, hls, ⟨x, r, rfl, ex, er, nr⟩⟩ := hc.r.back
    obtain ⟨stn, nl, tb⟩ := oks.2 (ns, t) (List.mem_append_right _ (List.mem_singleton.mpr rfl))
    have t0 := stn.t0
    dsimp only at nl tb stn t0 ex er
    have rp : r ≠ p := fun z => nr (by rw [z]; exact ap.x p List.mem_cons_self)
    have h0 := g.h0
    refine ⟨_, rfl, _, rfl, sa, _, -1, _, rfl, rfl, SqL.of hc.l, atI_end _ _, x, _, rfl, SqT.of ex, rfl, _, _, rfl, _, _, rfl, rfl, ?_⟩
    dsimp only
    -- the draws
    refine ⟨_, rfl, p, 6, rfl, hc.w, by decide, by decide, fun way H1 y0 y1 w1 b1 => ?_⟩
    have k1 := hc.but ap b1 w1
    refine ⟨_, rfl, _, rfl, _, rfl, p, 8, rfl, w1, by decide, by decide, fun dd H2 dd0 dd1 w2 b2 => ⟨by show 6 ≤ sizeLine; omega, fun q hq => ?_⟩⟩
    have k2 := k1.but ap b2 w2
    have sq := same_upd (o := HO.lst [V.int 0, V.int 0, V.int 1, V.int 1, V.int 2, V.int dd]) hq
    have k3 := k2.same sq
    refine ⟨p, q, _, rfl, k3.w, upd_same, well_ne w2 hq, by show 0 < 6; decide, by show 6 ≤ 1000; decide, fun i v H4 hv4 w4 b4 => ?_⟩
    obtain ⟨du, rfl, du0, du1⟩ : ∃ du : Int, v = .int du ∧ 0 ≤ du ∧ du ≤ 7 := by
      have hm := List.mem_of_getElem? hv4
      simp only [List.mem_cons, List.not_mem_nil, or_false] at hm
      rcases hm with rfl | rfl | rfl | rfl | rfl | rfl
      · exact ⟨_, rfl, by decide, by decide⟩
      · exact ⟨_, rfl, by decide, by decide⟩
      · exact ⟨_, rfl, by decide, by decide⟩
      · exact ⟨_, rfl, by decide, by decide⟩
      · exact ⟨_, rfl, by decide, by decide⟩
      · exact ⟨_, rfl, dd0, by omega⟩
    have k4 := k3.but ap b4 w4
    have f4 : Fr p a ea sa H H4 := ((Fr.but b1).trans (Fr.but b2)).trans ((Fr.same sq).trans (Fr.but b4))
    refine ⟨_, _, rfl, rfl, _, _, rfl, ?_⟩
    clear k1 k2 k3 b1 b2 b4 w1 w2 w4 sq hq hv4
    dsimp only
    refine ⟨_, rfl, by show 7 ≤ sizeLine; omega, fun q hq => ?_⟩
    have sq := same_upd (o := HO.lst [V.int 0, V.int 1, V.int 1, V.int 1, V.int 2, V.int 3, V.int 4]) hq
    have k5 := k4.same sq
    refine ⟨p, q, _, rfl, k5.w, upd_same, well_ne k4.w hq, by decide, by decide, fun i v H6 hv6 w6 b6 => gn ?_⟩
    obtain ⟨m, rfl, m4⟩ : ∃ m : Nat, v = .int (m : Nat) ∧ m ≤ 4 := by
      have hm := List.mem_of_getElem? hv6
      simp only [List.mem_cons, List.not_mem_nil, or_false] at hm
      rcases hm with rfl | rfl | rfl | rfl | rfl | rfl | rfl
      · exact ⟨0, rfl, by decide⟩
      · exact ⟨1, rfl, by decide⟩
      · exact ⟨1, rfl, by decide⟩
      · exact ⟨1, rfl, by decide⟩
      · exact ⟨2, rfl, by decide⟩
      · exact ⟨3, rfl, by decide⟩
      · exact ⟨4, rfl, by decide⟩
    have k6 := k5.but ap b6 w6
    have f6 : Fr p a ea sa H H6 := f4.trans ((Fr.same sq).trans (Fr.but b6))
    clear k4 k5 f4 b6 w6 sq hq hv6
    obtain ⟨u, hu, u0, u1⟩ : ∃ u : Int, t + du = u ∧ t ≤ u ∧ u ≤ t + 7 := ⟨_, rfl, by omega, by omega⟩
    dsimp only
    rw [hu]
    have er6 : H6 r = some (.lst (ns.map V.int)) := f6 _ _ er fun z => nr (ap.x _ z)
    refine ⟨_, rfl, _, rfl, _, rfl, _, rfl, _, rfl, lv, hv, r, u, (m : Nat), ps, hs, ns, rfl, k6.oL, k6.oH, h0, er6, by omega, by omega, fun H7 s7 => gn ?_⟩
    have k7 := k6.same s7
    have f7 := f6.trans (Fr.same s7)
    replace er6 := s7 _ _ er6
    clear k6 f6 s7
    obtain ⟨ml, hml⟩ : ∃ ml, mayI ps hs ns u (m : Nat) = ml := ⟨_, rfl⟩
    rw [hml]
    dsimp only
    have oks1 := oks.step
    have k4000 : stk.length ≤ 4000 := by
      have := oks.1
      rw [List.length_append] at this
      have : stk.length + 1 ≤ n + 1 := this
      omega
    have hvl : (vl' ++ [V.ref x]).length ≤ 50 := by
      rw [k7.r.len]
      have := oks.1
      omega
    have hB : ∀ {Hx : Hp} {z : Addr}, Hx z = some (.tup [.str "barred"]) → Od Hx (.ref z) (.tuple [.str "barred"]) := fun e => .tup e (.cons (.str _) .nil)
    have fB : (PyData.tuple [.str "barred"]).showable = true ∧ (PyData.tuple [.str "barred"]).depth ≤ 60 ∧ (PyData.tuple [.str "barred"]).shown.length ≤ sizeLine := ⟨rfl, by decide +kernel, by decide +kernel⟩
    have fN : (PyData.none).showable = true ∧ (PyData.none).depth ≤ 60 ∧ (PyData.none).shown.length ≤ sizeLine := ⟨rfl, by decide +kernel, by decide +kernel⟩
    refine ⟨_, rfl, _, _, rfl, rfl, _, rfl, ite2 (fun _ => ?_) (fun _ => ?_)⟩
    · -- asking
      cases ml with
      | false =>
        refine ⟨_, rfl, _, rfl, iteF (next_of ?_)⟩
        dsimp only
        refine ⟨_, rfl, _, rfl, _, rfl, a, ea, stk, rv, ps, hs, ns, t, u, m, rfl, k7.m, ap.ae, g, stn, u0, by omega, k4000, (fun h => by rw [hml] at h; cases h), fun _ z H8 s8 ez => ?_⟩
        refine ⟨_, _, rfl, (hB ez).dq, fB.1, fB.2.1, fB.2.2, _, rfl, _, rfl, iteF ?_⟩
        refine ⟨by show 1 ≤ sizeLine; omega, fun z2 hz2 => ?_⟩
        have s9 := same_upd (o := HO.tup [V.str "barred"]) hz2
        refine ⟨_, _, rfl, (hB upd_same).dq, fB.1, fB.2.1, fB.2.2, rfl, ?_⟩
        rw [decide_eq_true rfl]
        exact k _ _ stk ns t (f7.trans (Fr.same (s8.trans s9))) ((k7.same s8).same s9) oks1
      | true =>
        refine ⟨_, rfl, _, rfl, iteT ?_⟩
        refine ⟨_, rfl, .inl ⟨rfl, _, SqL.of k7.l⟩, _, rfl, _, rfl, _, rfl, by show 1 ≤ sizeLine; omega, fun q1 hq1 => ?_⟩
        have sq1 := same_upd (o := HO.lst [V.int u]) hq1
        refine ⟨_, rfl, q1, _, _, rfl, rfl, upd_same, by omega, by omega, by show 1 * _ ≤ _; omega, fun q2 hq2 => ?_⟩
        rw [Int.toNat_natCast, rep_flat]
        have sq2 := same_upd (o := HO.lst (List.replicate m (V.int u))) hq2
        have sq12 := sq1.trans sq2
        refine ⟨r, q2, _, _, rfl, rfl, sq12 _ _ er6, upd_same, by rw [List.length_map, List.length_replicate]; omega, fun nrw hnr => ?_⟩
        have snr := same_upd (o := HO.lst (ns.map V.int ++ List.replicate m (V.int u))) hnr
        refine ⟨by show 2 ≤ sizeLine; omega, fun tx htx => ?_⟩
        have stx := same_upd (o := HO.tup [V.int u, V.ref nrw]) htx
        have S8 := sq12.trans (snr.trans stx)
        have k8 := k7.same S8
        have f8 := f7.trans (Fr.same S8)
        have etx : upd (upd (upd (upd H7 q1 (.lst [V.int u])) q2 (.lst (List.replicate m (V.int u)))) nrw (.lst (ns.map V.int ++ List.replicate m (V.int u)))) tx (.tup [V.int u, V.ref nrw]) tx = some (.tup [V.int u, V.ref nrw]) := upd_same
        have enr : upd (upd (upd (upd H7 q1 (.lst [V.int u])) q2 (.lst (List.replicate m (V.int u)))) nrw (.lst (ns.map V.int ++ List.replicate m (V.int u)))) tx (.tup [V.int u, V.ref nrw]) nrw = some (.lst ((ns ++ List.replicate m u).map V.int)) := by
          rw [stx _ _ upd_same, List.map_append, List.map_replicate]
        have nrX : nrw ∉ X := fun z => by
          have h7 := k7.alloc f7 hX nrw z
          cases e : H7 nrw with
          | none => exact h7 e
          | some o =>
            rw [sq12 _ _ e] at hnr
            cases hnr
        generalize upd (upd (upd (upd H7 q1 (.lst [V.int u])) q2 (.lst (List.replicate m (V.int u)))) nrw (.lst (ns.map V.int ++ List.replicate m (V.int u)))) tx (.tup [V.int u, V.ref nrw]) = H8 at *
        clear sq1 sq2 sq12 snr stx S8 hq1 hq2 hnr htx k7
        refine ⟨sa, _, _, rfl, rfl, k8.l, by omega, ?_⟩
        have tsS : TupStay H8 (upd H8 sa (.lst ((vl' ++ [V.ref x]) ++ [V.ref tx]))) := ts_put k8.l
        have frS : ∀ b o, H8 b = some o → b ∉ [sa] → upd H8 sa (.lst ((vl' ++ [V.ref x]) ++ [V.ref tx])) b = some o := fun b o e n => (upd_ne fun z => n (by rw [z]; exact List.mem_singleton.mpr rfl)).trans e
        have tsa : tx ≠ sa := fun z => by rw [z, k8.l] at etx; cases etx
        have nsa : nrw ≠ sa := fun z => nrX (by rw [z]; exact ap.x sa (by simp))
        have r9 : LsAt (upd H8 sa (.lst ((vl' ++ [V.ref x]) ++ [V.ref tx]))) X ((vl' ++ [V.ref x]) ++ [V.ref tx]) ((stk ++ [(ns, t)]) ++ [(ns ++ List.replicate m u, u)]) := LsAt.snoc ⟨tx, nrw, rfl, (upd_ne tsa).trans etx, (upd_ne nsa).trans enr, nrX⟩ (k8.r.fr frS tsS fun y hy => by rw [List.mem_singleton.mp hy]; exact ap.x sa (by simp))
        have m9 := k8.m.ts tsS (upd_ne (Ne.symm ap.ha)) (upd_ne (Ne.symm ap.he))
        have w9 : Well (upd H8 sa (.lst ((vl' ++ [V.ref x]) ++ [V.ref tx]))) p := by
          obtain ⟨x1, x2, x3, ew⟩ := k8.w
          exact ⟨x1, x2, x3, (upd_ne ap.pw).trans ew⟩
        have oL9 := k8.oL.ts tsS (tup_lims' ps)
        have oH9 := k8.oH.ts tsS (tupD_ints hs)
        have l9 : upd H8 sa (.lst ((vl' ++ [V.ref x]) ++ [V.ref tx])) sa = some (.lst ((vl' ++ [V.ref x]) ++ [V.ref tx])) := upd_same
        have f9 : Fr p a ea sa H (upd H8 sa (.lst ((vl' ++ [V.ref x]) ++ [V.ref tx]))) := f8.trans fun b o e n => frS b o e fun z => n (by rw [List.mem_singleton.mp z]; simp)
        generalize upd H8 sa (.lst ((vl' ++ [V.ref x]) ++ [V.ref tx])) = H9 at *
        refine ⟨_, rfl, _, rfl, _, rfl, a, ea, stk, rv, ps, hs, ns, t, u, m, rfl, m9, ap.ae, g, stn, u0, by omega, k4000, fun _ H10 fr10 m10 => ?_, (fun h => by rw [hml] at h; cases h)⟩
        refine ⟨_, .none, rfl, .non, fN.1, fN.2.1, fN.2.2, _, rfl, _, rfl, iteT ?_⟩
        refine ⟨_, .none, rfl, .non, fN.1, fN.2.1, fN.2.2, rfl, ?_⟩
        rw [decide_eq_true rfl]
        have hp12 : ∀ q ∈ ps, 1 ≤ q.1 ∧ 1 ≤ q.2 := fun q hq => by have := g.p q hq; omega
        refine k _ _ (stk ++ [(ns, t)]) (ns ++ List.replicate m u) u (f9.trans fun b o e n => fr10 b o e (fun z => n (by rw [z]; simp)) (fun z => n (by rw [z]; simp))) (Cur.next w9 m9 l9 r9 oL9 oH9 ap fr10 m10) (oks.put (stn.ask u0 hp12 hml) (by
          show (ns ++ List.replicate m u).length ≤ _
          rw [List.length_append, List.length_replicate]
          omega) (by show u ≤ _; omega))
    refine next_of ?_
    dsimp only
    refine ⟨_, rfl, rfl, _, rfl, ite2 (fun _ => ?_) (fun _ => ?_)⟩
    · -- questions
      have m7 := k7.m
      obtain ⟨dx, cv, es, h1, _⟩ := id m7
      refine ⟨_, rfl, a, _, _, rfl, h1, rfl, _, rfl, _, rfl, a, ea, stk.length, rv, ps, hs, ns, t, u, (m : Nat), rfl, m7.at, g, stn, u0, by omega, by omega, fun H8 s8 => ?_⟩
      rw [hml]
      refine ⟨_, rfl, a, _, _, rfl, s8 _ _ h1, rfl, _, rfl, a, ea, stk.length, rv, ps, hs, ns, t, u, 1, rfl, (m7.same s8).at, g, stn, u0, by omega, by omega, fun H9 s9 => ?_⟩
      have s89 := s8.trans s9
      refine ⟨_, rfl, a, _, _, rfl, s89 _ _ h1, rfl, _, rfl, _, rfl, _, _, rfl, rfl, rfl, rfl, a, ea, stk.length, rv, ps, hs, ns, t, u, (m : Nat) + 1, rfl, (m7.same s89).at, g, stn, u0, by omega, by omega, fun H10 s10 => ?_⟩
      have s80 := s89.trans s10
      refine ⟨by show 3 ≤ sizeLine; omega, fun y1 hy1 => gn ?_⟩
      have sy1 := same_upd (o := HO.lst [V.bl ml, V.bl (mayI ps hs ns u 1), V.bl (mayI ps hs ns u ((m : Nat) + 1))]) hy1
      have d1 : Od (upd H10 y1 (.lst [V.bl ml, V.bl (mayI ps hs ns u 1), V.bl (mayI ps hs ns u ((m : Nat) + 1))])) (.ref y1) (.list [.bool ml, .bool (mayI ps hs ns u 1), .bool (mayI ps hs ns u ((m : Nat) + 1))]) := .lst upd_same (.cons (.bl _) (.cons (.bl _) (.cons (.bl _) .nil)))
      have s81 := s80.trans sy1
      generalize upd H10 y1 (.lst [V.bl ml, V.bl (mayI ps hs ns u 1), V.bl (mayI ps hs ns u ((m : Nat) + 1))]) = H11 at *
      clear s8 s9 s10 s89 s80 sy1 hy1
      dsimp only
      refine ⟨_, rfl, _, rfl, _, rfl, _, rfl, _, rfl, lv, hv, r, u, 1, ps, hs, ns, rfl, k7.oL.same s81, k7.oH.same s81, h0, s81 _ _ er6, by omega, by decide, fun H12 s12 => ?_⟩
      have s82 := s81.trans s12
      refine ⟨_, rfl, _, rfl, _, rfl, _, rfl, _, rfl, _, _, rfl, rfl, lv, hv, r, u, (m : Nat) + 1, ps, hs, ns, rfl, k7.oL.same s82, k7.oH.same s82, h0, s82 _ _ er6, by omega, by omega, fun H13 s13 => ?_⟩
      have s83 := s82.trans s13
      refine ⟨by show 3 ≤ sizeLine; omega, fun y2 hy2 => gn ?_⟩
      have sy2 := same_upd (o := HO.lst [V.bl ml, V.bl (mayI ps hs ns u 1), V.bl (mayI ps hs ns u ((m : Nat) + 1))]) hy2
      have d2 : Od (upd H13 y2 (.lst [V.bl ml, V.bl (mayI ps hs ns u 1), V.bl (mayI ps hs ns u ((m : Nat) + 1))])) (.ref y2) (.list [.bool ml, .bool (mayI ps hs ns u 1), .bool (mayI ps hs ns u ((m : Nat) + 1))]) := .lst upd_same (.cons (.bl _) (.cons (.bl _) (.cons (.bl _) .nil)))
      obtain ⟨f1, f2, f3⟩ := tri_bl ml (mayI ps hs ns u 1) (mayI ps hs ns u ((m : Nat) + 1))
      dsimp only
      refine ⟨_, rfl, _, _, rfl, (d1.same ((s12.trans s13).trans sy2)).dq, f1, f2, f3, _, rfl, _, _, rfl, d2.dq, f1, f2, f3, rfl, ?_⟩
      rw [decide_eq_true rfl]
      exact k _ _ stk ns t (f7.trans (Fr.same (s83.trans sy2))) (k7.same (s83.trans sy2)) oks1
    refine next_of ?_
    dsimp only
    refine ⟨_, rfl, rfl, _, rfl, ite2 (fun _ => ?_) (fun _ => ?_)⟩
    · -- the soonest
      have m7 := k7.m
      obtain ⟨dx, cv, es, h1, _⟩ := id m7
      have hpL : ∀ q ∈ ps, 1 ≤ q.1 ∧ 1 ≤ q.2 ∧ q.2 ≤ 12 := fun q hq => by have := g.p q hq; have := hp7 q hq; omega
      have sn := asc_srt stn.asc
      have bnd : ∀ {ts : List Int}, SRow ps hs ns t ts → ts.length ≤ 4 → (PyData.tuple (ts.map PyData.int)).showable = true ∧ (PyData.tuple (ts.map PyData.int)).depth ≤ 60 ∧ (PyData.tuple (ts.map PyData.int)).shown.length ≤ sizeLine := fun {ts} sr hl => nums_facts (fun x hx => by
        obtain ⟨_, rng⟩ := row_all (M := t) hpL g.h1 g.one sn sr (Int.le_refl _) stn.top
        have := rng x hx
        omega) (by omega)
      refine ⟨_, rfl, _, rfl, _, rfl, _, rfl, _, rfl, lv, hv, r, (m : Nat), t, ps, hs, ns, rfl, k7.oL, fun q hq => by have := hpL q hq; omega, k7.oH, g.h1, g.one, .inl (SqL.of er6), by omega, by omega, by omega, fun z ts H8 s8 hz ez lts sr => ?_⟩
      refine ⟨z, _, rfl, .inl ⟨SqL.of ez, fun R hR => gn ?_⟩⟩
      have sR := same_upd (o := HO.tup (ts.map V.int)) hR
      have s9 := s8.trans sR
      have eR : upd H8 R (.tup (ts.map V.int)) R = some (.tup (ts.map V.int)) := upd_same
      generalize upd H8 R (.tup (ts.map V.int)) = H9 at *
      clear s8 sR hR hz ez
      dsimp only
      refine ⟨_, rfl, a, _, _, rfl, s9 _ _ h1, rfl, a, ea, stk.length, rv, ps, hs, ns, t, 1, rfl, (m7.same s9).at, g, stn, by omega, by decide, by decide, fun z1 us H10 s10 iz1 lus srs => ?_⟩
      have lus : us.length = 1 := lus
      obtain ⟨f1, f2, f3⟩ := bnd srs (by omega)
      refine ⟨_, _, rfl, iz1.od.dq, f1, f2, f3, ?_⟩
      have s90 := s9.trans s10
      refine ⟨_, rfl, _, rfl, _, rfl, _, rfl, lv, hv, r, 1, t, ps, hs, ns, rfl, k7.oL.same s90, fun q hq => by have := hpL q hq; omega, k7.oH.same s90, g.h1, g.one, .inl (SqL.of (s90 _ _ er6)), by omega, by decide, by decide, fun z2 us2 H11 s11 hz2 ez2 lus2 srs2 => ?_⟩
      have eus2 : us2 = us := srow_eq srs2 srs (by rw [lus2, lus]; rfl)
      subst eus2
      refine ⟨z2, _, rfl, .inl ⟨SqL.of ez2, fun R2 hR2 => ?_⟩⟩
      have sR2 := same_upd (o := HO.tup (us2.map V.int)) hR2
      refine ⟨_, _, rfl, (show IsI (upd H11 R2 (.tup (us2.map V.int))) (.ref R2) us2 from ⟨R2, rfl, upd_same⟩).od.dq, f1, f2, f3, rfl, _, rfl, ?_⟩
      rw [decide_eq_true rfl]
      refine iteF (next_of ?_)
      dsimp only
      have s91 := s90.trans (s11.trans sR2)
      have eR2 := (s10.trans (s11.trans sR2)) _ _ eR
      generalize upd H11 R2 (.tup (us2.map V.int)) = H12 at *
      clear s10 s11 sR2 s90 s9 hR2 hz2 ez2 f1 f2 f3 iz1 eR
      refine ⟨_, rfl, a, _, _, rfl, s91 _ _ h1, rfl, _, rfl, a, ea, stk.length, rv, ps, hs, ns, t, (m : Nat), rfl, (m7.same s91).at, g, stn, by omega, by omega, by omega, fun z3 ws H13 s13 iz3 lws srw => ?_⟩
      have ews : ws = ts := srow_eq srw sr (by rw [lws, lts])
      subst ews
      obtain ⟨f1, f2, f3⟩ := bnd srw (by rw [lws]; omega)
      refine ⟨_, _, rfl, iz3.od.dq, f1, f2, f3, _, rfl, _, _, rfl, (show IsI H13 (.ref R) ws from ⟨R, rfl, s13 _ _ eR2⟩).od.dq, f1, f2, f3, rfl, ?_⟩
      rw [decide_eq_true rfl]
      exact k _ _ stk ns t (f7.trans (Fr.same (s91.trans s13))) (k7.same (s91.trans s13)) oks1
    refine next_of ?_
    dsimp only
    -- taken back
    have m7 := k7.m
    obtain ⟨dx, cv, es, h1, _⟩ := id m7
    refine ⟨_, rfl, sa, _, rfl, .inl (SqL.of k7.l), _, _, rfl, rfl, gn ?_⟩
    dsimp only
    have fT : ∀ b : Bool, (PyData.bool b).showable = true ∧ (PyData.bool b).depth ≤ 60 ∧ (PyData.bool b).shown.length ≤ sizeLine := fun b => (small_bl b).facts (by decide) (by decide)
    rcases List.eq_nil_or_concat stk with rfl | ⟨st0, e, hst⟩
    · match vl', hls with
      | [], _ =>
        refine ⟨_, rfl, _, rfl, iteF (next_of ?_)⟩
        dsimp only
        refine ⟨_, rfl, a, _, _, rfl, h1, rfl, a, ea, [], rv, ps, hs, ns, t, rfl, m7, ap.ae, by decide, fun _ => ?_, fun st0 e h => absurd h (by simp)⟩
        refine ⟨_, .bool false, rfl, .bl _, (fT false).1, (fT false).2.1, (fT false).2.2, _, rfl, _, .bool false, rfl, .bl _, (fT false).1, (fT false).2.1, (fT false).2.2, rfl, ?_⟩
        rw [decide_eq_true rfl]
        exact k _ _ [] ns t f7 k7 oks1
    · rw [List.concat_eq_append] at hst
      subst hst
      have hlt : decide ((1 : Int) < (((vl' ++ [V.ref x]).length : Nat) : Int)) = true := decide_eq_true (by
        rw [k7.r.len, List.length_append, List.length_append]
        show (1 : Int) < ((st0.length + 1 + 1 : Nat) : Int)
        omega)
      rw [hlt]
      refine ⟨_, rfl, _, rfl, iteT ?_⟩
      refine ⟨_, rfl, .inl ⟨rfl, _, SqL.of k7.l⟩, sa, _, V.ref x, rfl, rfl, k7.l, by simp, ?_⟩
      have tsS : TupStay H7 (upd H7 sa (.lst (vl' ++ [V.ref x]).dropLast)) := ts_put k7.l
      have frS : ∀ b o, H7 b = some o → b ∉ [sa] → upd H7 sa (.lst (vl' ++ [V.ref x]).dropLast) b = some o := fun b o e n => (upd_ne fun z => n (by rw [z]; exact List.mem_singleton.mpr rfl)).trans e
      have r9 : LsAt (upd H7 sa (.lst (vl' ++ [V.ref x]).dropLast)) X vl' (st0 ++ [e]) := (LsAt.init k7.r).fr frS tsS fun y hy => by rw [List.mem_singleton.mp hy]; exact ap.x sa (by simp)
      have m9 := k7.m.ts tsS (upd_ne (Ne.symm ap.ha)) (upd_ne (Ne.symm ap.he))
      have w9 : Well (upd H7 sa (.lst (vl' ++ [V.ref x]).dropLast)) p := by
        obtain ⟨x1, x2, x3, ew⟩ := k7.w
        exact ⟨x1, x2, x3, (upd_ne ap.pw).trans ew⟩
      have oL9 := k7.oL.ts tsS (tup_lims' ps)
      have oH9 := k7.oH.ts tsS (tupD_ints hs)
      have l9 : upd H7 sa (.lst (vl' ++ [V.ref x]).dropLast) sa = some (.lst vl') := by rw [upd_same, List.dropLast_concat]
      have f9 : Fr p a ea sa H (upd H7 sa (.lst (vl' ++ [V.ref x]).dropLast)) := f7.trans fun b o e n => frS b o e fun z => n (by rw [List.mem_singleton.mp z]; simp)
      generalize upd H7 sa (.lst (vl' ++ [V.ref x]).dropLast) = H9 at *
      obtain ⟨dx9, cv9, es9, h19, _⟩ := id m9
      refine ⟨_, rfl, a, _, _, rfl, h19, rfl, a, ea, st0 ++ [e], rv, ps, hs, ns, t, rfl, m9, ap.ae, by omega, fun z => absurd z (by simp), fun st1 e1 he H10 fr10 m10 => ?_⟩
      obtain ⟨e2, e3⟩ := List.append_inj' he rfl
      injection e3 with e3
      subst e2
      subst e3
      refine ⟨_, .bool true, rfl, .bl _, (fT true).1, (fT true).2.1, (fT true).2.2, _, rfl, _, .bool true, rfl, .bl _, (fT true).1, (fT true).2.1, (fT true).2.2, rfl, ?_⟩
      rw [decide_eq_true rfl]
      exact k _ _ st0 e.1 e.2 (f9.trans fun b o e n => fr10 b o e (fun z => n (by rw [z]; simp)) (fun z => n (by rw [z]; simp))) (Cur.next w9 m9 l9 r9 oL9 oH9 ap fr10 m10) oks.drop.step
end
end KP

set_option Elab.async false
set_option maxRecDepth 100000
set_option maxHeartbeats 4000000
set_option linter.all false
/-! Ours: limits drawn below given bounds. -/
namespace KP
open PySem PySem.Spec PyProof.Rows L2 Gr GxR
def limR2 (tp wd : Int) : PyData → Prop := fun d => ∃ ps : List (Int × Int), d = .tuple (ps.map prD) ∧ ps.length ≤ 4 ∧ ∀ p ∈ ps, 1 ≤ p.1 ∧ p.1 ≤ tp ∧ 1 ≤ p.2 ∧ p.2 ≤ wd
def spSomeLim2 : Sp := fun vs H Q _ => ∃ (p : Addr) (tp wd : Int), vs = [.ref p, .int tp, .int wd] ∧ Well H p ∧ 0 < tp ∧ tp ≤ 6 ∧ 0 < wd ∧ wd ≤ 12 ∧ Drawn H p (limR2 tp wd) Q
section
variable {P : Program} {w : World} {K : PySem.W.Frag} {mg : Str → Option Value} {base : Heap}
theorem ok_slim2 (T : D K mg) : FnOk P w K mg base CX0 3 T.f_l_some_limits T.d_l_some_limits ["_law_well_here", "_law_top", "_law_width"] spSomeLim2 := by
  refine T.U_l_some_limits.ok sc_slim (fun vs H Q E h => ?_) (fun cdv A outer s H vs Q E hr h => ?_)
  · obtain ⟨p, tp, wd, rfl, _⟩ := h
    rfl
  · obtain ⟨p, tp, wd, rfl, hp, t0, t1, w0, w1, k⟩ := h
    have nd := sc_slim.nd
    have mz : 5000 ≤ sizeLine := by decide
    refine ⟨_, pss_cons (ps_set (i := 3) nd rfl (.inl rfl) (pe_call (ok_l_one T) hr rfl T.g_l_one T.U_l_one.kp T.b_l_one .nil pass0 (pa_cons (pv 0) (pa_cons (pe_lst (pa_cons pe_int (pa_cons pe_int (pa_cons pe_int (pa_cons pe_int (pa_cons pe_int (pa_cons pe_int (pa_cons pe_int (pa_cons pe_int (pa_cons pe_int pa_nil)))))))))) pa_nil))))
      (pss_one (ps_ret (pe_callTy call_tuple_of (by rfl) T.tuple (by decide +kernel) (pa_cons (pe_lc (own := [("_law_turn", 4)]) (g := gName 4) (tt := tYes) rfl nd (pi_range1 rfl T.range (pa_cons (pv 3) pa_nil)) (blkOk_by (N := ["_law_well_here", "_law_top", "_law_width", "_law_number", "_law_turn"]) (sc := defScope s_l_some_limits) (by decide +kernel)) (fun _ _ _ _ _ => pg_name (i := 4) nd rfl (.inl rfl)) (fun _ _ _ _ _ => pts_nil) (fun _ _ _ _ _ => pe_tup (pa_cons (pe_op op_add pe_int (pe_call (ok_l_pick T) (hr.mono (by decide)) rfl T.g_l_pick T.U_l_pick.kp T.b_l_pick .nil pass0 (pa_cons (pv 0) (pa_cons (pv 1) pa_nil)))) (pa_cons (pe_op op_add pe_int (pe_call (ok_l_pick T) (hr.mono (by decide)) rfl T.g_l_pick T.U_l_pick.kp T.b_l_pick .nil pass0 (pa_cons (pv 0) (pa_cons (pv 2) pa_nil)))) pa_nil)))) pa_nil)))), ?_⟩
    refine ⟨_, rfl, by show 9 ≤ sizeLine; omega, fun q hq => ?_⟩
    have sq := same_upd (o := HO.lst [V.int 1, V.int 1, V.int 1, V.int 2, V.int 2, V.int 2, V.int 3, V.int 4, V.int 0]) hq
    refine ⟨p, q, _, rfl, hp.same sq, upd_same, well_ne hp hq, by decide, by decide, fun i v H1 hv w1' b1 => ?_⟩
    obtain ⟨n, rfl, n0, n4⟩ : ∃ n : Int, v = .int n ∧ 0 ≤ n ∧ n ≤ 4 := by
      have hm := List.mem_of_getElem? hv
      simp only [List.mem_cons, List.not_mem_nil, or_false] at hm
      rcases hm with rfl | rfl | rfl | rfl | rfl | rfl | rfl | rfl | rfl <;> exact ⟨_, rfl, by decide, by decide⟩
    have b01 : But H H1 p := (But.same' sq).trans b1
    refine gn ?_
    dsimp only
    refine ⟨_, rfl, n, rfl, by omega, by omega, fun D hD => lc_range (fun i Hx => But H1 Hx p ∧ Well Hx p ∧ ∃ (vs : List V) (ps : List (Int × Int)), Hx D = some (.lst vs) ∧ vs.length = i ∧ ps.length = i ∧ OdAll (hide Hx [p, D]) vs (ps.map prD) ∧ ∀ p ∈ ps, 1 ≤ p.1 ∧ p.1 ≤ tp ∧ 1 ≤ p.2 ∧ p.2 ≤ wd)
      ⟨But.same' (same_upd hD), w1'.same (same_upd hD), [], [], upd_same, rfl, rfl, .nil, fun _ h => nomatch h⟩ ?_ ?_⟩
    · rintro i Hx hi ⟨bx, wx, vs, ps, ev, lv, lp, ov, hps⟩
      have nDp := well_ne w1' hD
      refine ⟨rfl, ?_⟩
      unfold tYes
      dsimp only
      rw [if_pos rfl]
      refine ⟨_, rfl, _, rfl, p, tp, rfl, wx, t0, by omega, fun r H3 r0 r1 w3 b3 => ⟨_, _, rfl, rfl, _, rfl, _, rfl, p, wd, rfl, w3, w0, by omega, fun r' H4 r0' r1' w4 b4 => ⟨_, _, rfl, rfl, by show 2 ≤ sizeLine; omega, fun t ht => ?_⟩⟩⟩
      have b34 := b3.trans b4
      have e4 : H4 D = some (.lst vs) := b34 _ _ ev nDp
      have st := same_upd (o := HO.tup [V.int (1 + r), V.int (1 + r')]) ht
      have ntp := well_ne w4 ht
      have ntD : t ≠ D := fun z => by rw [z, e4] at ht; cases ht
      refine ⟨_, st _ _ e4, by omega, (bx.trans (b34.trans (But.same' st))).put hD, (w4.same st).put nDp, _, ps ++ [(1 + r, 1 + r')], upd_same, by rw [List.length_append, lv]; rfl, by rw [List.length_append, lp]; rfl, ?_, fun x hx => ?_⟩
      · rw [List.map_append]
        refine (ov.same (hide_put (b34.trans (But.same' st)))).app (.cons (.tup (hide_at2 ((upd_ne ntD).trans upd_same) ntp ntD) (.cons (.int _) (.cons (.int _) .nil))) .nil)
      · rcases List.mem_append.mp hx with z | z
        · exact hps x z
        · rw [List.mem_singleton.mp z]
          show 1 ≤ 1 + r ∧ 1 + r ≤ tp ∧ 1 ≤ 1 + r' ∧ 1 + r' ≤ wd
          omega
    · rintro Hx ⟨bx, wx, vs, ps, ev, lv, lp, ov, hps⟩
      refine ⟨D, vs, rfl, .inl ⟨SqL.of ev, fun R hR => ?_⟩⟩
      have sR := same_upd (o := HO.tup vs) hR
      exact k _ (.tuple (ps.map prD)) _ (b01.trans (bx.trans (But.same' sR))) (wx.same sR) (.tup (hide_at1 upd_same (well_ne wx hR)) ((ov.same hide_one).same (same_hide _ sR))) ⟨ps, rfl, by omega, hps⟩
end
end KP

set_option Elab.async false
set_option maxRecDepth 100000
set_option maxHeartbeats 4000000
set_option linter.all false
/-! Ours: two objects side by side. -/
namespace KP
open PySem PySem.Spec PyProof.Rows L2 Gr GxR
abbrev Stk := List (List Int × Int)
structure Fix where
  a : Nat → Addr
  e : Nat → Addr
  s : Nat → Addr
  r : Nat → Addr
  lv : Nat → V
  hv : Nat → V
  ps : Nat → List (Int × Int)
  hs : Nat → List Int
  S : Addr
  O : Addr
  L : Addr
structure Vr where
  stk : Nat → Stk
  ns : Nat → List Int
  t : Nat → Int
  vl : Nat → List V
def Vr.put (w : Vr) (k : Nat) (stk : Stk) (ns : List Int) (t : Int) (vl : List V) : Vr := ⟨fun j => if j = k then stk else w.stk j, fun j => if j = k then ns else w.ns j, fun j => if j = k then t else w.t j, fun j => if j = k then vl else w.vl j⟩
def Fix.m (F : Fix) : List Addr := [F.a 0, F.e 0, F.s 0, F.a 1, F.e 1, F.s 1]
/-- what never changes -/
structure Fx (F : Fix) : Prop where
  nd : F.m.Nodup
  S : F.S ∉ F.m
  O : F.O ∉ F.m
  L : F.L ∉ F.m
  g : ∀ j, j < 2 → Good (F.ps j) (F.hs j) ∧ ∀ q ∈ F.ps j, q.2 ≤ 7
section
variable {K : PySem.W.Frag} {mg : Str → Option Value}
structure Sde (T : D K mg) (F : Fix) (H : Hp) (X : List Addr) (j : Nat) (stk : Stk) (ns : List Int) (t : Int) (vl : List V) (n : Nat) : Prop where
  m : MonS T H (F.a j) (F.e j) stk (.ref (F.r j)) (F.ps j) (F.hs j) ns t
  l : H (F.s j) = some (.lst vl)
  r : LsAt H X vl (stk ++ [(ns, t)])
  c : H (F.r j) = some (.tup [F.lv j, F.hv j])
  oL : Od H (F.lv j) (.tuple (((F.ps j).map inD).map tw))
  oH : Od H (F.hv j) (.tuple ((F.hs j).map PyData.int))
  ok : Oks (F.ps j) (F.hs j) n (stk ++ [(ns, t)])
structure Two (T : D K mg) (F : Fix) (X : List Addr) (H : Hp) (w : Vr) (n : Nat) : Prop where
  hS : H F.S = some (.lst [.ref (F.r 0), .ref (F.r 1)])
  hO : H F.O = some (.lst [.ref (F.a 0), .ref (F.a 1)])
  hL : H F.L = some (.lst [.ref (F.s 0), .ref (F.s 1)])
  d : ∀ j, j < 2 → Sde T F H X j (w.stk j) (w.ns j) (w.t j) (w.vl j) n
variable {T : D K mg} {F : Fix} {H H' : Hp} {X Y : List Addr} {j k n n' : Nat} {stk : Stk} {ns : List Int} {t : Int} {vl : List V} {w : Vr}
theorem Sde.fr (h : Sde T F H X j stk ns t vl n) (fr : ∀ b o, H b = some o → b ∉ Y → H' b = some o) (ts : TupStay H H') (hY : ∀ y ∈ Y, y ∈ X) (ha : F.a j ∉ Y) (he : F.e j ∉ Y) (hs : F.s j ∉ Y) : Sde T F H' X j stk ns t vl n := by
  obtain ⟨dx, cv, es, h1, h2, _⟩ := id h.m
  exact ⟨h.m.ts ts ((fr _ _ h1 ha).trans h1.symm) ((fr _ _ h2 he).trans h2.symm), fr _ _ h.l hs, h.r.fr fr ts hY, ts _ _ h.c, h.oL.ts ts (tup_lims' _), h.oH.ts ts (tupD_ints _), h.ok⟩
theorem Sde.more (h : Sde T F H X j stk ns t vl n) {p : Addr} (hp : H p = none) : Sde T F H (p :: X) j stk ns t vl n := ⟨h.m, h.l, h.r.map fun _ _ q => q.more hp, h.c, h.oL, h.oH, h.ok⟩
theorem Sde.less (h : Sde T F H X j stk ns t vl n) (s : ∀ y ∈ Y, y ∈ X) : Sde T F H Y j stk ns t vl n := ⟨h.m, h.l, h.r.map fun _ _ q => q.sub s, h.c, h.oL, h.oH, h.ok⟩
theorem Sde.step (h : Sde T F H X j stk ns t vl n) : Sde T F H X j stk ns t vl (n + 1) := ⟨h.m, h.l, h.r, h.c, h.oL, h.oH, h.ok.step⟩
theorem Two.same (h : Two T F X H w n) (s : Same H H') : Two T F X H' w n := ⟨s _ _ h.hS, s _ _ h.hO, s _ _ h.hL, fun j hj => (h.d j hj).fr (Y := []) (fun b o e _ => s b o e) (same_ts s) (fun _ h => nomatch h) (fun h => nomatch h) (fun h => nomatch h) (fun h => nomatch h)⟩
theorem Two.more (h : Two T F X H w n) {p : Addr} (hp : H p = none) : Two T F (p :: X) H w n := ⟨h.hS, h.hO, h.hL, fun j hj => (h.d j hj).more hp⟩
theorem Two.less (h : Two T F X H w n) (s : ∀ y ∈ Y, y ∈ X) : Two T F Y H w n := ⟨h.hS, h.hO, h.hL, fun j hj => (h.d j hj).less s⟩
theorem Two.put (h : Two T F X H w n) (fr : ∀ b o, H b = some o → b ∉ Y → H' b = some o) (ts : TupStay H H') (hY : ∀ y ∈ Y, y ∈ X) (nS : F.S ∉ Y) (nO : F.O ∉ Y) (nL : F.L ∉ Y) (oth : ∀ j, j < 2 → j ≠ k → F.a j ∉ Y ∧ F.e j ∉ Y ∧ F.s j ∉ Y)
    (nw : Sde T F H' X k stk ns t vl n') (up : ∀ j, j < 2 → Sde T F H' X j (w.stk j) (w.ns j) (w.t j) (w.vl j) n → Sde T F H' X j (w.stk j) (w.ns j) (w.t j) (w.vl j) n') : Two T F X H' (w.put k stk ns t vl) n' := by
  refine ⟨fr _ _ h.hS nS, fr _ _ h.hO nO, fr _ _ h.hL nL, fun j hj => ?_⟩
  by_cases z : j = k
  · subst z
    unfold Vr.put
    simp only [if_pos]
    exact nw
  · unfold Vr.put
    simp only [if_neg z]
    obtain ⟨o1, o2, o3⟩ := oth j hj z
    exact up j hj ((h.d j hj).fr fr ts hY o1 o2 o3)
theorem Two.alloc (h : Two T F X H w n) : ∀ y ∈ F.m, H y ≠ none := fun y hy z => by
  have d0 := h.d 0 (by decide)
  have d1 := h.d 1 (by decide)
  obtain ⟨_, _, _, h1, h2, _⟩ := d0.m
  obtain ⟨_, _, _, h3, h4, _⟩ := d1.m
  unfold Fix.m at hy
  simp only [List.mem_cons, List.not_mem_nil, or_false] at hy
  rcases hy with rfl | rfl | rfl | rfl | rfl | rfl
  · rw [h1] at z; cases z
  · rw [h2] at z; cases z
  · rw [d0.l] at z; cases z
  · rw [h3] at z; cases z
  · rw [h4] at z; cases z
  · rw [d1.l] at z; cases z
theorem Fx.apart (x : Fx F) {p : Addr} (hp : p ∉ F.m) {j : Nat} (hj : j < 2) : Aprt p (F.a j) (F.e j) (F.s j) (p :: F.m) := by
  have nd := x.nd
  unfold Fix.m at nd hp ⊢
  simp only [List.nodup_cons, List.mem_cons, List.not_mem_nil, or_false, not_or] at nd hp
  match j, hj with
  | 0, _ => exact ⟨nd.1.1, Ne.symm nd.1.2.1, Ne.symm nd.2.1.1, hp.1, hp.2.1, hp.2.2.1, fun y hy => by simp only [List.mem_cons, List.not_mem_nil, or_false] at hy ⊢; rcases hy with rfl | rfl | rfl | rfl <;> simp⟩
  | 1, _ => exact ⟨nd.2.2.2.1.1, Ne.symm nd.2.2.2.1.2, Ne.symm nd.2.2.2.2.1, hp.2.2.2.1, hp.2.2.2.2.1, hp.2.2.2.2.2, fun y hy => by simp only [List.mem_cons, List.not_mem_nil, or_false] at hy ⊢; rcases hy with rfl | rfl | rfl | rfl <;> simp⟩
theorem Fx.other (x : Fx F) {p : Addr} (hp : p ∉ F.m) {j i : Nat} (hj : j < 2) (hi : i < 2) (ne : i ≠ j) : F.a i ∉ [p, F.a j, F.e j, F.s j] ∧ F.e i ∉ [p, F.a j, F.e j, F.s j] ∧ F.s i ∉ [p, F.a j, F.e j, F.s j] := by
  have nd := x.nd
  unfold Fix.m at nd hp
  simp only [List.nodup_cons, List.mem_cons, List.not_mem_nil, or_false, not_or] at nd hp ⊢
  match j, i, hj, hi with
  | 0, 0, _, _ => exact absurd rfl ne
  | 1, 1, _, _ => exact absurd rfl ne
  | 0, 1, _, _ => exact ⟨⟨Ne.symm hp.2.2.2.1, Ne.symm nd.1.2.2.1, Ne.symm nd.2.1.2.1, Ne.symm nd.2.2.1.1⟩, ⟨Ne.symm hp.2.2.2.2.1, Ne.symm nd.1.2.2.2.1, Ne.symm nd.2.1.2.2.1, Ne.symm nd.2.2.1.2.1⟩, ⟨Ne.symm hp.2.2.2.2.2, Ne.symm nd.1.2.2.2.2, Ne.symm nd.2.1.2.2.2, Ne.symm nd.2.2.1.2.2⟩⟩
  | 1, 0, _, _ => exact ⟨⟨Ne.symm hp.1, nd.1.2.2.1, nd.1.2.2.2.1, nd.1.2.2.2.2⟩, ⟨Ne.symm hp.2.1, nd.2.1.2.1, nd.2.1.2.2.1, nd.2.1.2.2.2⟩, ⟨Ne.symm hp.2.2.1, nd.2.2.1.1, nd.2.2.1.2.1, nd.2.2.1.2.2⟩⟩
theorem Fx.sub (x : Fx F) {p : Addr} {j : Nat} (hj : j < 2) : ∀ y ∈ [p, F.a j, F.e j, F.s j], y ∈ p :: F.m := fun y hy => by
  unfold Fix.m
  simp only [List.mem_cons, List.not_mem_nil, or_false] at hy ⊢
  match j, hj with
  | 0, _ => rcases hy with rfl | rfl | rfl | rfl <;> simp
  | 1, _ => rcases hy with rfl | rfl | rfl | rfl <;> simp
theorem Fx.out (x : Fx F) {p y : Addr} (h1 : y ∉ F.m) (h2 : y ≠ p) {j : Nat} (hj : j < 2) : y ∉ [p, F.a j, F.e j, F.s j] := fun z => by
  rcases List.mem_cons.mp (x.sub hj y z) with q | q
  · exact h2 q
  · exact h1 q
theorem Two.cur (h : Two T F X H w n) {j : Nat} (hj : j < 2) {p : Addr} (hw : Well H p) : Cur T H p (F.a j) (F.e j) (F.s j) X (w.stk j) (.ref (F.r j)) (F.lv j) (F.hv j) (F.ps j) (F.hs j) (w.ns j) (w.t j) (w.vl j) :=
  let d := h.d j hj; ⟨hw, d.m, d.l, d.r, d.oL, d.oH⟩
/-- a deed on one side -/
theorem Two.deed (x : Fx F) (h : Two T F (F.m) H w n) {H1 : Hp} {p : Addr} (hp : H p = none) (s : Same H H1) {j : Nat} (hj : j < 2) (fr : Fr p (F.a j) (F.e j) (F.s j) H1 H') (c1 : Cur T H1 p (F.a j) (F.e j) (F.s j) (p :: F.m) (w.stk j) (.ref (F.r j)) (F.lv j) (F.hv j) (F.ps j) (F.hs j) (w.ns j) (w.t j) (w.vl j))
    (c : Cur T H' p (F.a j) (F.e j) (F.s j) (p :: F.m) stk (.ref (F.r j)) (F.lv j) (F.hv j) (F.ps j) (F.hs j) ns t vl) (o : Oks (F.ps j) (F.hs j) (n + 1) (stk ++ [(ns, t)])) : Two T F F.m H' (w.put j stk ns t vl) (n + 1) := by
  have pm : p ∉ F.m := fun z => h.alloc p z hp
  have ts : TupStay H1 H' := ts_of fr c1.ntup
  have ne : ∀ {y o}, H y = some o → y ≠ p := fun {y o} e z => by rw [z, hp] at e; cases e
  have c0 := s _ _ (h.d j hj).c
  exact ((h.more hp).same s).put (k := j) (Y := [p, F.a j, F.e j, F.s j]) fr ts (x.sub hj) (x.out x.S (ne h.hS) hj) (x.out x.O (ne h.hO) hj) (x.out x.L (ne h.hL) hj) (fun i hi z => x.other pm hj hi z) ⟨c.m, c.l, c.r, ts _ _ c0, c.oL, c.oH, o⟩ (fun _ _ q => q.step) |>.less fun y hy => List.mem_cons_of_mem _ hy
/-- one deed taken back on one side -/
theorem Two.back (x : Fx F) (h : Two T F F.m H w n) {k : Nat} (hk : k < 2) {st0 : Stk} {e : List Int × Int} {v : V} {vl' : List V} (es : w.stk k = st0 ++ [e]) (ev : w.vl k = vl' ++ [v])
    (fr : ∀ b o, upd H (F.s k) (.lst vl') b = some o → b ≠ F.a k → b ≠ F.e k → H' b = some o) (m : MonS T H' (F.a k) (F.e k) st0 (.ref (F.r k)) (F.ps k) (F.hs k) e.1 e.2) : Two T F F.m H' (w.put k st0 e.1 e.2 vl') n := by
  have d := h.d k hk
  have ap := x.apart x.S hk
  have fr2 : ∀ b o, H b = some o → b ∉ [F.a k, F.e k, F.s k] → H' b = some o := fun b o q z => by
    simp only [List.mem_cons, List.not_mem_nil, or_false, not_or] at z
    exact fr b o ((upd_ne z.2.2).trans q) z.1 z.2.1
  have ts : TupStay H H' := ts_of fr2 fun y hy xs q => by
    obtain ⟨_, _, _, h1, h2, _⟩ := d.m
    simp only [List.mem_cons, List.not_mem_nil, or_false] at hy
    rcases hy with rfl | rfl | rfl
    · rw [h1] at q; cases q
    · rw [h2] at q; cases q
    · rw [d.l] at q; cases q
  have sub : ∀ y ∈ [F.a k, F.e k, F.s k], y ∈ F.m := fun y hy => by
    unfold Fix.m
    simp only [List.mem_cons, List.not_mem_nil, or_false] at hy ⊢
    match k, hk with
    | 0, _ => rcases hy with rfl | rfl | rfl <;> simp
    | 1, _ => rcases hy with rfl | rfl | rfl <;> simp
  have r0 := d.r
  have ok := d.ok
  rw [es] at ok
  rw [es, ev] at r0
  refine h.put (k := k) (Y := [F.a k, F.e k, F.s k]) fr2 ts sub (fun z => x.S (sub _ z)) (fun z => x.O (sub _ z)) (fun z => x.L (sub _ z)) (fun i hi z => ?_) ⟨m, ?_, ?_, ts _ _ d.c, d.oL.ts ts (tup_lims' _), d.oH.ts ts (tupD_ints _), ok.drop⟩ (fun _ _ q => q)
  · obtain ⟨a1, a2, a3⟩ := x.other x.S hk hi z
    exact ⟨fun q => a1 (List.mem_cons_of_mem _ q), fun q => a2 (List.mem_cons_of_mem _ q), fun q => a3 (List.mem_cons_of_mem _ q)⟩
  · exact fr _ _ upd_same ap.ha ap.he
  · exact (LsAt.init r0).fr fr2 ts sub
/-- what stays where an object was made -/
theorem mon_made {T : D K mg} {H H1 H' : Hp} {aa dx ea : Addr} (hT : Tb (tabs T) H) (ha : H aa = none) (hd : H dx = none) (u : UpL (tabs T) (upd (upd H dx (.own aa)) aa (.ins T.C_Monitor dx [])) H1) (he : H1 ea = none) (fr : ∀ b o, H1 b = some o → b ≠ aa → H' b = some o) :
    Stay H H' ∧ Tb (tabs T) H' ∧ H ea = none ∧ aa ≠ ea := by
  have sm : Same H (upd (upd H dx (.own aa)) aa (.ins T.C_Monitor dx [])) := fun b o e => by
    rw [upd_ne (ne_of_none e ha), upd_ne (ne_of_none e hd)]
    exact e
  have hTm : Tb (tabs T) (upd (upd H dx (.own aa)) aa (.ins T.C_Monitor dx [])) := hT.same sm
  have e1 : H1 aa = some (.ins T.C_Monitor dx []) := u.stay hTm _ _ upd_same fun _ q => nomatch q
  refine ⟨fun b o e nt => fr b o (u.stay hTm _ _ (sm _ _ e) nt) (ne_of_none e ha), fun P hP => ?_, ?_, fun z => ?_⟩
  · obtain ⟨ps, e, t⟩ := u.1 P hP
    have ne : P ≠ aa := fun z => by
      rw [z, e1] at e
      cases e
    exact ⟨ps, fr _ _ e ne, t⟩
  · cases h : H ea with
    | none => rfl
    | some o =>
      by_cases z : ea ∈ tabs T
      · obtain ⟨ps', e, _⟩ := u.1 ea z
        rw [he] at e; cases e
      · rw [u.2 ea z o (sm _ _ h)] at he; cases he
  · rw [← z, e1] at he
    cases he
theorem stay_ts {H H' : Hp} (s : Stay H H') : TupStay H H' := fun b xs e => s _ _ e fun _ q => nomatch q
theorem MonS.stay {T : D K mg} {H H' : Hp} {a ea : Addr} {stk : List (List Int × Int)} {rv : V} {ps : List (Int × Int)} {hs ns : List Int} {t : Int} (h : MonS T H a ea stk rv ps hs ns t) (s : Stay H H') : MonS T H' a ea stk rv ps hs ns t := by
  obtain ⟨dx, cv, es, h1, h2, _⟩ := id h
  exact h.ts (stay_ts s) ((s _ _ h1 fun _ q => nomatch q).trans h1.symm) ((s _ _ h2 fun _ q => nomatch q).trans h2.symm)
theorem stn_nil {ps : List (Int × Int)} {hs : List Int} {t : Int} (g : Good ps hs) (h : 0 ≤ t) : Stn ps hs [] t := ⟨trivial, (fun _ h => nomatch h), (fun _ h => nomatch h), full_nil ps fun p hp => (g.p p hp).1, h⟩
theorem sql_fr {a : Addr} {xs : List V} {Y : List Addr} (fr : ∀ b o, H b = some o → b ∉ Y → H' b = some o) (h : SqL K H a xs) (n : (∃ o, H a = some o) → a ∉ Y) : SqL K H' a xs := by
  rcases h with (h | ⟨o, h⟩) | h
  · exact .inl (.inl (fr _ _ h (n ⟨_, h⟩)))
  · exact .inl (.inr ⟨o, fr _ _ h (n ⟨_, h⟩)⟩)
  · exact .inr h
/-- the script's list: of the written part, or apart from all that changes -/
def Scr (K : PySem.W.Frag) (H : Hp) (a : Addr) (xs : List V) (M : List Addr) : Prop := SqL K H a xs ∧ ((∀ H', SqL K H' a xs) ∨ (a ∉ M ∧ H a ≠ none))
theorem Scr.same {a : Addr} {xs : List V} {M : List Addr} (h : Scr K H a xs M) (s : Same H H') : Scr K H' a xs M := by
  refine ⟨sql_fr (Y := []) (fun b o e _ => s b o e) h.1 (fun _ q => nomatch q), h.2.imp id fun q => ⟨q.1, fun z => q.2 ?_⟩⟩
  cases e : H a with
  | none => rfl
  | some o => rw [s _ _ e] at z; cases z
theorem Scr.fr {a p : Addr} {xs : List V} {M Y : List Addr} (h : Scr K H a xs M) (f : ∀ b o, H b = some o → b ∉ Y → H' b = some o) (hY : ∀ y ∈ Y, y = p ∨ y ∈ M) (hp : a ∉ M → H a ≠ none → a ≠ p) : Scr K H' a xs M := by
  rcases h.2 with q | ⟨q1, q2⟩
  · exact ⟨q H', .inl q⟩
  · have nY : a ∉ Y := fun z => by
      rcases hY a z with e | e
      · exact hp q1 q2 e
      · exact q1 e
    refine ⟨sql_fr f h.1 fun _ => nY, .inr ⟨q1, fun z => ?_⟩⟩
    cases e : H a with
    | none => exact q2 e
    | some o => rw [f _ _ e nY] at z; cases z
theorem at2 {x y : V} {f : Nat → V} (h0 : f 0 = x) (h1 : f 1 = y) {j : Nat} (hj : j < 2) : atI [x, y] ((j : Nat) : Int) = some (f j) := by
  subst h0
  subst h1
  match j, hj with
  | 0, _ => exact atI_nat (j := 0) rfl
  | 1, _ => exact atI_nat (j := 1) rfl
theorem Two.last (h : Two T F X H w n) {k : Nat} (hk : k < 2) : ∃ vl' v, w.vl k = vl' ++ [v] ∧ StX H X v (w.ns k, w.t k) := by
  obtain ⟨vl', v, e, _, q⟩ := (h.d k hk).r.back
  exact ⟨vl', v, e, q⟩
theorem Two.state (x : Fx F) (h : Two T F X H w n) (hn : n ≤ 100) {k : Nat} (hk : k < 2) {v : V} (hv : StX H X v (w.ns k, w.t k)) {Q : VK} {E : XK} (q : ∀ H', Same H H' → Q (.bl true) H') : spState T [.ref (F.a k), F.lv k, F.hv k, v] H Q E := by
  have d := h.d k hk
  obtain ⟨a, b, c⟩ := d.ok.2 (w.ns k, w.t k) (List.mem_append_right _ (List.mem_singleton.mpr rfl))
  have t0 := a.t0
  dsimp only at b c t0
  exact ⟨F.a k, F.e k, _, .ref (F.r k), F.lv k, F.hv k, v, F.ps k, F.hs k, w.ns k, w.t k, rfl, d.m.at, (x.g k hk).1, d.oL, d.oH, hv.v, t0, by omega, by omega, q⟩
end
end KP

set_option Elab.async false
set_option maxRecDepth 100000
set_option maxHeartbeats 8000000
set_option linter.all false
/-! Ours: the law. -/
namespace KP
open PySem PySem.Spec PyProof.Rows L2 Gr GxR
def spLaw {K : PySem.W.Frag} {mg : Str → Option Value} (T : D K mg) : Sp := fun vs H Q _ => ∃ (a : Addr) (ns : List Int), vs = [.ref a] ∧ SqL K H a (ns.map V.int) ∧ ns.length ≤ 63 ∧ Tb (tabs T) H ∧ ∀ H', Q (.bl true) H'
def RuS (H : Hp) (r : Addr) : Prop := ∃ (lv hv : V) (ps : List (Int × Int)) (hs : List Int), H r = some (.tup [lv, hv]) ∧ Od H lv (.tuple ((ps.map inD).map tw)) ∧ Od H hv (.tuple (hs.map PyData.int)) ∧ Good ps hs ∧ ∀ q ∈ ps, q.2 ≤ 7
theorem RuS.ts {H H' : Hp} {r : Addr} (h : RuS H r) (s : TupStay H H') : RuS H' r := by
  obtain ⟨lv, hv, ps, hs, e, oL, oH, g, q⟩ := h
  exact ⟨lv, hv, ps, hs, s _ _ e, oL.ts s (tup_lims' ps), oH.ts s (tupD_ints hs), g, q⟩
theorem but_ts {p : Addr} {H H1 : Hp} (w : Well H p) (b : But H H1 p) : TupStay H H1 := by
  obtain ⟨_, _, _, e⟩ := w
  exact ts_but e b
section
variable {P : Program} {w : World} {K : PySem.W.Frag} {mg : Str → Option Value} {base : Heap} {C : Addr}
theorem sc_law : FnScope ["_law_script", "_law_well_here", "_law_sets", "_law_turn", "_law_begun", "_law_objects", "_law_states", "_law_side", "_law_pairs", "_law_clock", "_law_k"] ["_law_script"] (defScope s_law) := ⟨rfl, rfl, rfl, by decide +kernel, rfl, by decide +kernel, by decide +kernel⟩
theorem ok_law (T : D K mg) (TB : Tabs base T) (B : BarF K mg C) (hM : SysM K) : FnQ P w K mg base CX0 10 T.f_law T.d_law ["_law_script"] (spLaw T) := by
  refine funQ T.U_law sc_law (fun vs H Q E h => ?_) (fun cdv A outer s H vs Q E hgu hr h => ?_)
  · obtain ⟨a, ns, rfl, _⟩ := h
    rfl
  · obtain ⟨a0, sc, rfl, hS, hl, hT, k⟩ := h
    have nd := sc_law.nd
    have hu64 : (A.deeper (envOfC "law" (defScope s_law) s.heap.objs.size T.f_law cdv)).units + 64 < cLine := hr.units
    have mz : 5000 ≤ sizeLine := by decide
    have GD : FnQ P w K mg base CX0 9 T.f_l_deed_right T.d_l_deed_right ["_law_well_here", "_law_monitor", "_law_pairs", "_law_clock", "_law_states"] (spDeed T) := ok_ldeed T B hM
    have GS : FnQ P w K mg base CX0 3 T.f_l_state_right T.d_l_state_right ["_law_monitor", "_law_pairs", "_law_clock", "_law_state"] (spState T) := ok_lstate T hM
    obtain ⟨mv, kI⟩ := k_init T
    obtain ⟨d1, v1, b1⟩ := T.b1_init
    refine ⟨_, pss_cons (ps_set (i := 1) nd rfl (.inl rfl) (pe_call (ok_l_well T) (hr.mono (by decide)) rfl T.g_l_well T.U_l_well.kp T.b_l_well .nil pass0 (pa_cons (pv 0) (pa_cons pe_int pa_nil))))
      (pss_cons (ps_set (i := 2) nd rfl (.inl rfl) (pe_lst pa_nil))
      (pss_cons (ps_for PassesOwn.never rfl (pi_range1 rfl T.range (pa_cons pe_int pa_nil)) (pg_name (i := 3) nd rfl (.inl rfl))
        (pss_one (ps_expr (pe_bm PySem.F.plainAttrs_list PySem.F.slot_list_append PySem.F.type_list_append mt_append (pv 2) (pa_cons (pe_tup (pa_cons (pe_call (ok_slim2 T) (hr.mono (by decide)) rfl T.g_l_some_limits T.U_l_some_limits.kp T.b_l_some_limits .nil pass0 (pa_cons (pv 1) (pa_cons (pe_call (ok_l_one T) (hr.mono (by decide)) rfl T.g_l_one T.U_l_one.kp T.b_l_one .nil pass0 (pa_cons (pv 1) (pa_cons (pe_lst (pa_cons pe_int (pa_cons pe_int pa_nil))) pa_nil))) (pa_cons pe_int pa_nil)))) (pa_cons (pe_call (ok_shrs T) (hr.mono (by decide)) rfl T.g_l_some_hours T.U_l_some_hours.kp T.b_l_some_hours .nil pass0 (pa_cons (pv 1) (pa_cons pe_int pa_nil))) pa_nil))) pa_nil)))))
      (pss_cons (ps_set (i := 4) nd rfl (.inl rfl) (pe_lst (pa_cons (pe_call (ok_l_pick T) (hr.mono (by decide)) rfl T.g_l_pick T.U_l_pick.kp T.b_l_pick .nil pass0 (pa_cons (pv 1) (pa_cons pe_int pa_nil))) (pa_cons pe_int pa_nil))))
      (pss_cons (ps_set (i := 5) nd rfl (.inl rfl) (pe_lst (pa_cons (pe_makeK T.mk_Monitor (ok_initm T TB) hr rfl T.g_Monitor kI pass0 (pa_cons (pe_ix ix_list (pv 2) pe_int (fun _ _ => rfl)) pa_nil) (pk_cons (pe_ix ix_list (pv 4) pe_int (fun _ _ => rfl)) pk_nil)) (pa_cons (pe_make T.mk_Monitor (ok_initm T TB) hr rfl T.g_Monitor b1 v1 pass0 (pa_cons (pe_ix ix_list (pv 2) pe_int (fun _ _ => rfl)) pa_nil)) pa_nil))))
      (pss_cons (ps_set (i := 6) nd rfl (.inl rfl) (pe_lst (pa_cons (pe_lst (pa_cons (pe_tup (pa_cons (pe_ix ix_list (pv 4) pe_int (fun _ _ => rfl)) (pa_cons (pe_lst pa_nil) pa_nil))) pa_nil)) (pa_cons (pe_lst (pa_cons (pe_tup (pa_cons (pe_ix ix_list (pv 4) pe_int (fun _ _ => rfl)) (pa_cons (pe_lst pa_nil) pa_nil))) pa_nil)) pa_nil))))
      (pss_cons (ps_for PassesOwn.never rfl (pi_range1 rfl T.range (pa_cons (pe_callB (call_max2 rfl) (by rfl) T.max boot_max (pa_cons pe_int (pa_cons (pe_callB (call_min2 rfl) (by rfl) T.min boot_min (pa_cons (pe_callB call_len_seq (by rfl) T.len PySem.boot_len (pa_cons (pv 0) pa_nil)) (pa_cons pe_int pa_nil))) pa_nil))) pa_nil)) (pg_name (i := 3) nd rfl (.inl rfl))
        (pss_cons (ps_set (i := 1) nd rfl (.inl rfl) (pe_call (ok_l_well T) (hr.mono (by decide)) rfl T.g_l_well T.U_l_well.kp T.b_l_well .nil pass0 (pa_cons (pv 0) (pa_cons (pv 3) pa_nil))))
        (pss_cons (ps_set (i := 7) nd rfl (.inl rfl) (pe_call (ok_l_pick T) (hr.mono (by decide)) rfl T.g_l_pick T.U_l_pick.kp T.b_l_pick .nil pass0 (pa_cons (pv 1) (pa_cons pe_int pa_nil))))
        (pss_cons (ps_asg (pe_ix ix_list (pv 2) (pv 7) (fun _ _ => rfl)) (pg_tup rfl (pgs_cons (pg_name (i := 8) nd rfl (.inl rfl)) (pgs_cons (pg_name (i := 9) nd rfl (.inl rfl)) pgs_nil))))
        (pss_cons (ps_if (pt_not (pt_val (pe_callQ hgu GD hr rfl T.g_l_deed_right T.U_l_deed_right.kp T.b_l_deed_right .nil pass0 (pa_cons (pv 1) (pa_cons (pe_ix ix_list (pv 5) (pv 7) (fun _ _ => rfl)) (pa_cons (pv 8) (pa_cons (pv 9) (pa_cons (pe_ix ix_list (pv 6) (pv 7) (fun _ _ => rfl)) pa_nil))))))))
          (pss_one (ps_ret pe_bl))
          (pss_nil))
        (pss_one (ps_for PassesOwn.never rfl (pi_range1 rfl T.range (pa_cons pe_int pa_nil)) (pg_name (i := 10) nd rfl (.inl rfl))
          (pss_one (ps_if (pt_not (pt_val (pe_callQ hgu GS (hr.mono (by decide)) rfl T.g_l_state_right T.U_l_state_right.kp T.b_l_state_right .nil pass0 (pa_cons (pe_ix ix_list (pv 5) (pv 10) (fun _ _ => rfl)) (pa_cons (pe_ix ix_tup (pe_ix ix_list (pv 2) (pv 10) (fun _ _ => rfl)) pe_int (fun _ _ => rfl)) (pa_cons (pe_ix ix_tup (pe_ix ix_list (pv 2) (pv 10) (fun _ _ => rfl)) pe_int (fun _ _ => rfl)) (pa_cons (pe_ix ix_list (pe_ix ix_list (pv 6) (pv 10) (fun _ _ => rfl)) (pe_un un_neg pe_int) (fun _ _ => rfl)) pa_nil)))))))
            (pss_one (ps_ret pe_bl))
            (pss_nil))))))))))
      (pss_cons (ps_for PassesOwn.never rfl (pi_range1 rfl T.range (pa_cons pe_int pa_nil)) (pg_name (i := 10) nd rfl (.inl rfl))
        (pss_cons (ps_for PassesOwn.never rfl (pi_range1 rfl T.range (pa_cons (pe_op op_sub (pe_callB call_len_seq (by rfl) T.len PySem.boot_len (pa_cons (pe_ix ix_list (pv 6) (pv 10) (fun _ _ => rfl)) pa_nil)) pe_int) pa_nil)) (pg_name (i := 3) nd rfl (.inl rfl))
          (pss_cons (ps_expr (pe_bm0 PySem.F.plainAttrs_list PySem.F.slot_list_pop PySem.F.type_list_pop mt_pop (pe_ix ix_list (pv 6) (pv 10) (fun _ _ => rfl))))
          (pss_cons (ps_if (pt_cmpR op_ne (pe_callB (call_reprD hgu hu64 hM) (by rfl) T.repr (by decide +kernel) (pa_cons (pe_meth0 (pe_ix ix_list (pv 5) (pv 10) (fun _ _ => rfl)) T.cl_Monitor T.M_undo (ok_undo T) (hr.mono (by decide)) T.b_undo .nil pass0) pa_nil)) pe_str (nomark _))
            (pss_one (ps_ret pe_bl))
            (pss_nil))
          (pss_one (ps_if (pt_not (pt_val (pe_callQ hgu GS (hr.mono (by decide)) rfl T.g_l_state_right T.U_l_state_right.kp T.b_l_state_right .nil pass0 (pa_cons (pe_ix ix_list (pv 5) (pv 10) (fun _ _ => rfl)) (pa_cons (pe_ix ix_tup (pe_ix ix_list (pv 2) (pv 10) (fun _ _ => rfl)) pe_int (fun _ _ => rfl)) (pa_cons (pe_ix ix_tup (pe_ix ix_list (pv 2) (pv 10) (fun _ _ => rfl)) pe_int (fun _ _ => rfl)) (pa_cons (pe_ix ix_list (pe_ix ix_list (pv 6) (pv 10) (fun _ _ => rfl)) (pe_un un_neg pe_int) (fun _ _ => rfl)) pa_nil)))))))
            (pss_one (ps_ret pe_bl))
            (pss_nil))))))
        (pss_one (ps_if (pt_cmpR op_ne (pe_callB (call_reprD hgu hu64 hM) (by rfl) T.repr (by decide +kernel) (pa_cons (pe_meth0 (pe_ix ix_list (pv 5) (pv 10) (fun _ _ => rfl)) T.cl_Monitor T.M_undo (ok_undo T) (hr.mono (by decide)) T.b_undo .nil pass0) pa_nil)) pe_str (nomark _))
          (pss_one (ps_ret pe_bl))
          (pss_nil)))))
      (pss_one (ps_ret pe_bl))))))))), ?_⟩
    -- the well
    refine ⟨_, rfl, a0, sc, 0, rfl, hS, by decide, by omega, fun p H1 hp0 hw s1 => gn ?_⟩
    have hT1 := hT.same s1
    dsimp only
    refine ⟨by show 0 ≤ sizeLine; omega, fun D hD => gn ?_⟩
    have sD := same_upd (o := HO.lst []) hD
    have nDp : D ≠ p := well_ne hw hD
    dsimp only
    -- two sets of rules
    refine ⟨2, rfl, by decide, by decide, for_range (lo := 0) (n := _) (fun i σ Hx => Mv T p H1 Hx ∧ (∃ rs : List Addr, Hx D = some (.lst (rs.map V.ref)) ∧ rs.length = i ∧ ∀ r ∈ rs, RuS Hx r) ∧ ∃ v3 : Option V, σ = [some (.ref a0), some (.ref p), some (.ref D), v3, none, none, none, none, none, none, none]) ⟨Mv.same hw hT1 sD, ⟨[], upd_same, rfl, fun _ h => nomatch h⟩, none, rfl⟩ ?_ ?_⟩
    · rintro i σ Hx hi ⟨mx, ⟨rs, eD, lrs, hrs⟩, v3, rfl⟩
      have hi2 : i < 2 := hi
      refine gn ?_
      dsimp only
      refine ⟨_, rfl, .inl ⟨rfl, _, SqL.of eD⟩, _, rfl, _, rfl, by show 2 ≤ sizeLine; omega, fun q hq => ?_⟩
      have sq := same_upd (o := HO.lst [V.int 3, V.int 6]) hq
      have m2 := mx.s sq
      refine ⟨p, q, _, rfl, m2.2.1, upd_same, well_ne mx.2.1 hq, by decide, by decide, fun i v H3 hv3 w3 b3 => ?_⟩
      obtain ⟨tp, rfl, tp0, tp1⟩ : ∃ tp : Int, v = .int tp ∧ 0 < tp ∧ tp ≤ 6 := by
        have hm := List.mem_of_getElem? hv3
        simp only [List.mem_cons, List.not_mem_nil, or_false] at hm
        rcases hm with rfl | rfl
        · exact ⟨_, rfl, by decide, by decide⟩
        · exact ⟨_, rfl, by decide, by decide⟩
      have m3 := m2.b b3 w3
      refine ⟨p, tp, 7, rfl, w3, tp0, tp1, by decide, by decide, fun lv dl H4 b4 w4 o4 ⟨ps, ed, h4, hps⟩ => ?_⟩
      subst ed
      rw [prs] at o4
      have m4 := m3.b b4 w4
      refine ⟨_, rfl, p, 6, rfl, w4, by decide, by decide, fun hv dh H5 b5 w5 o5 ⟨hs, eh, hh0, hh1, hhd, hho⟩ => ?_⟩
      subst eh
      have m5 := m4.b b5 w5
      have t5 := but_ts w4 b5
      have oL := (vis o4).ts t5 (tup_lims' ps)
      have oH := vis o5
      refine ⟨by show 2 ≤ sizeLine; omega, fun r hr => ?_⟩
      have sr := same_upd (o := HO.tup [lv, hv]) hr
      have m6 := m5.s sr
      have g : Good ps hs := ⟨h4, fun q hq => by have := hps q hq; omega, hh0, hh1, hhd, hho⟩
      have ru : RuS (upd H5 r (.tup [lv, hv])) r := ⟨lv, hv, ps, hs, upd_same, oL.same sr, oH.same sr, g, fun q hq => by have := hps q hq; omega⟩
      have eD6 : upd H5 r (.tup [lv, hv]) D = some (.lst (rs.map V.ref)) := sr _ _ (b5 _ _ (b4 _ _ (b3 _ _ (sq _ _ eD) nDp) nDp) nDp)
      have t6 : TupStay Hx (upd H5 r (.tup [lv, hv])) := fun b xs e => sr _ _ (t5 _ _ (but_ts w3 b4 _ _ (but_ts m2.2.1 b3 _ _ (sq _ _ e))))
      generalize upd H5 r (.tup [lv, hv]) = H6 at *
      refine ⟨D, _, _, rfl, rfl, eD6, by rw [List.length_map]; omega, ?_⟩
      have tD : TupStay H6 (upd H6 D (.lst (rs.map V.ref ++ [V.ref r]))) := ts_put eD6
      refine ⟨?_, ⟨rs ++ [r], by rw [upd_same, List.map_append]; rfl, by rw [List.length_append, lrs]; rfl, fun x hx => ?_⟩, _, rfl⟩
      · refine ⟨fun b o e n1 n2 => ?_, ?_, fun P hP => ?_⟩
        · have q := m6.1 b o e n1 n2
          have nb : b ≠ D := ne_of_none e hD
          exact (upd_ne nb).trans q
        · obtain ⟨x1, x2, x3, ew⟩ := m6.2.1
          exact ⟨x1, x2, x3, (upd_ne (Ne.symm nDp)).trans ew⟩
        · obtain ⟨ps', e, tt⟩ := m6.2.2 P hP
          refine ⟨ps', (upd_ne fun z => ?_).trans e, tt⟩
          rw [z, eD6] at e
          cases e
      · rcases List.mem_append.mp hx with hx | hx
        · exact (hrs x hx).ts (fun b xs e => tD _ _ (t6 _ _ e))
        · rw [List.mem_singleton.mp hx]
          exact ru.ts tD
    · rintro σ Hx ⟨mx, ⟨rs, eD, lrs, hrs⟩, v3, rfl⟩
      match rs, lrs with
      | [r0, r1], _ =>
      refine ⟨_, rfl, p, 10, rfl, mx.2.1, by decide, by decide, fun bg H2 bg0 bg1 w2 b2 => ⟨by show 2 ≤ sizeLine; omega, fun G hG => gn ?_⟩⟩
      have t2 := but_ts mx.2.1 b2
      have sG := same_upd (o := HO.lst [V.int bg, V.int 0]) hG
      have m3 := (mx.b b2 w2).s sG
      have eD3 := sG _ _ (b2 _ _ eD nDp)
      have eG : upd H2 G (.lst [V.int bg, V.int 0]) G = some (.lst [V.int bg, V.int 0]) := upd_same
      have t3 : TupStay Hx (upd H2 G (.lst [V.int bg, V.int 0])) := fun b xs e => sG _ _ (t2 _ _ e)
      obtain ⟨lv0, hv0, ps0, hs0, er0, oL0, oH0, g0, q0⟩ := (hrs r0 (by simp)).ts t3
      obtain ⟨lv1, hv1, ps1, hs1, er1, oL1, oH1, g1, q1⟩ := (hrs r1 (by simp)).ts t3
      generalize upd H2 G (.lst [V.int bg, V.int 0]) = H3 at *
      clear mx b2 w2 eD hrs t2 t3 sG hG
      dsimp only
      have oR0 : Od H3 (.ref r0) (rulesP ps0 hs0) := .tup er0 (.cons oL0 (.cons oH0 .nil))
      refine ⟨_, rfl, D, _, 0, _, rfl, rfl, SqL.of eD3, atI_nat (j := 0) (by rfl), _, rfl, G, _, 0, _, rfl, rfl, SqL.of eG, atI_nat (j := 0) (by rfl), rfl, rfl, fun aa dx hxa hdx ndx => ?_⟩
      have sm : Same H3 (upd (upd H3 dx (.own aa)) aa (.ins T.C_Monitor dx [])) := fun b o e => by
        rw [upd_ne (ne_of_none e hxa), upd_ne (ne_of_none e hdx)]
        exact e
      refine ⟨aa, dx, .ref r0, ps0, hs0, bg, rfl, upd_same, oR0.same sm, g0, bg0, m3.2.2.same sm, fun ea H4' H4 u4 hea fr4 hM4 => ⟨rfl, ?_⟩⟩
      obtain ⟨st4, hT4, ea3, nae⟩ := mon_made m3.2.2 hxa hdx u4 hea fr4
      have ms4 := MonS.new hM4
      have eD4 := st4 _ _ eD3 fun _ q => nomatch q
      have er14 := st4 _ _ er1 fun _ q => nomatch q
      have oR1 : Od H4 (.ref r1) (rulesP ps1 hs1) := (Od.tup er1 (.cons oL1 (.cons oH1 .nil)) : Od H3 (.ref r1) (rulesP ps1 hs1)).stay st4
      refine ⟨_, rfl, D, _, 1, _, rfl, rfl, SqL.of eD4, atI_nat (j := 1) (by rfl), fun bb dy hxb hdy ndy => ?_⟩
      have sn : Same H4 (upd (upd H4 dy (.own bb)) bb (.ins T.C_Monitor dy [])) := fun b o e => by
        rw [upd_ne (ne_of_none e hxb), upd_ne (ne_of_none e hdy)]
        exact e
      refine ⟨bb, dy, .ref r1, ps1, hs1, 0, rfl, upd_same, oR1.same sn, g1, by decide, hT4.same sn, fun eb H5' H5 u5 heb fr5 hM5 => ⟨rfl, ?_⟩⟩
      obtain ⟨st5, hT5, eb4, nbe⟩ := mon_made hT4 hxb hdy u5 heb fr5
      have ms5 := MonS.new hM5
      have ms45 := ms4.stay st5
      have st35 : Stay H3 H5 := fun b o e nt => st5 b o (st4 b o e nt) nt
      -- the list of objects, the law's own states
      refine ⟨by show 2 ≤ sizeLine; omega, fun O hO => gn ?_⟩
      have s6 := same_upd (o := HO.lst [V.ref aa, V.ref bb]) hO
      have eO : upd H5 O (.lst [V.ref aa, V.ref bb]) O = some (.lst [V.ref aa, V.ref bb]) := upd_same
      have eG6 := s6 _ _ (st35 _ _ eG fun _ q => nomatch q)
      generalize upd H5 O (.lst [V.ref aa, V.ref bb]) = H6 at *
      dsimp only
      refine ⟨_, rfl, G, _, 0, _, rfl, rfl, SqL.of eG6, atI_nat (j := 0) (by rfl), by show 0 ≤ sizeLine; omega, fun n0 hn0 => ⟨by show 2 ≤ sizeLine; omega, fun x0 hx0 => ⟨by show 1 ≤ sizeLine; omega, fun z0 hz0 => ?_⟩⟩⟩
      have sn0 := same_upd (o := HO.lst []) hn0
      have sx0 := same_upd (o := HO.tup [V.int bg, V.ref n0]) hx0
      have sz0 := same_upd (o := HO.lst [V.ref x0]) hz0
      have s7 := sn0.trans (sx0.trans sz0)
      have en0 : upd (upd (upd H6 n0 (.lst [])) x0 (.tup [V.int bg, V.ref n0])) z0 (.lst [V.ref x0]) n0 = some (.lst []) := (sx0.trans sz0) _ _ upd_same
      have ex0 : upd (upd (upd H6 n0 (.lst [])) x0 (.tup [V.int bg, V.ref n0])) z0 (.lst [V.ref x0]) x0 = some (.tup [V.int bg, V.ref n0]) := sz0 _ _ upd_same
      have ez0 : upd (upd (upd H6 n0 (.lst [])) x0 (.tup [V.int bg, V.ref n0])) z0 (.lst [V.ref x0]) z0 = some (.lst [V.ref x0]) := upd_same
      have nz0 : n0 ≠ z0 := ne_of_none (sx0 _ _ upd_same) hz0
      have hz6 : H6 z0 = none := by
        cases h : H6 z0 with
        | none => rfl
        | some o => rw [(sn0.trans sx0) _ _ h] at hz0; cases hz0
      generalize upd (upd (upd H6 n0 (.lst [])) x0 (.tup [V.int bg, V.ref n0])) z0 (.lst [V.ref x0]) = H7 at *
      refine ⟨_, rfl, G, _, 1, _, rfl, rfl, SqL.of (s7 _ _ eG6), atI_nat (j := 1) (by rfl), by show 0 ≤ sizeLine; omega, fun n1 hn1 => ⟨by show 2 ≤ sizeLine; omega, fun x1 hx1 => ⟨by show 1 ≤ sizeLine; omega, fun z1 hz1 => ?_⟩⟩⟩
      have sn1 := same_upd (o := HO.lst []) hn1
      have sx1 := same_upd (o := HO.tup [V.int 0, V.ref n1]) hx1
      have sz1 := same_upd (o := HO.lst [V.ref x1]) hz1
      have s8 := sn1.trans (sx1.trans sz1)
      have en1 : upd (upd (upd H7 n1 (.lst [])) x1 (.tup [V.int 0, V.ref n1])) z1 (.lst [V.ref x1]) n1 = some (.lst []) := (sx1.trans sz1) _ _ upd_same
      have ex1 : upd (upd (upd H7 n1 (.lst [])) x1 (.tup [V.int 0, V.ref n1])) z1 (.lst [V.ref x1]) x1 = some (.tup [V.int 0, V.ref n1]) := sz1 _ _ upd_same
      have ez1 : upd (upd (upd H7 n1 (.lst [])) x1 (.tup [V.int 0, V.ref n1])) z1 (.lst [V.ref x1]) z1 = some (.lst [V.ref x1]) := upd_same
      have nz1 : n1 ≠ z1 := ne_of_none (sx1 _ _ upd_same) hz1
      have hz7 : H7 z1 = none := by
        cases h : H7 z1 with
        | none => rfl
        | some o => rw [(sn1.trans sx1) _ _ h] at hz1; cases hz1
      generalize upd (upd (upd H7 n1 (.lst [])) x1 (.tup [V.int 0, V.ref n1])) z1 (.lst [V.ref x1]) = H8 at *
      refine ⟨by show 2 ≤ sizeLine; omega, fun L hL => gn ?_⟩
      have s9 := same_upd (o := HO.lst [V.ref z0, V.ref z1]) hL
      have eL : upd H8 L (.lst [V.ref z0, V.ref z1]) L = some (.lst [V.ref z0, V.ref z1]) := upd_same
      generalize upd H8 L (.lst [V.ref z0, V.ref z1]) = H9 at *
      dsimp only
      obtain ⟨_, _, _, ia4, ie4, _⟩ := id ms4
      obtain ⟨_, _, _, ia5, ie5, _⟩ := id ms45
      obtain ⟨_, _, _, ib5, ieb5, _⟩ := id ms5
      have s69 := s7.trans (s8.trans s9)
      have s59 := s6.trans s69
      have eD5 := st35 _ _ eD3 fun _ q => nomatch q
      have n_aa_bb := ne_of_none ia4 hxb
      have n_ea_bb := ne_of_none ie4 hxb
      have n_aa_eb := ne_of_none ia4 eb4
      have n_ea_eb := ne_of_none ie4 eb4
      have n_aa_z0 := ne_of_none (s6 _ _ ia5) hz6
      have n_ea_z0 := ne_of_none (s6 _ _ ie5) hz6
      have n_bb_z0 := ne_of_none (s6 _ _ ib5) hz6
      have n_eb_z0 := ne_of_none (s6 _ _ ieb5) hz6
      have n_aa_z1 := ne_of_none (s7 _ _ (s6 _ _ ia5)) hz7
      have n_ea_z1 := ne_of_none (s7 _ _ (s6 _ _ ie5)) hz7
      have n_bb_z1 := ne_of_none (s7 _ _ (s6 _ _ ib5)) hz7
      have n_eb_z1 := ne_of_none (s7 _ _ (s6 _ _ ieb5)) hz7
      have n_z0_z1 := ne_of_none ez0 hz7
      have n_D_aa := ne_of_none eD3 hxa
      have n_D_ea := ne_of_none eD3 ea3
      have n_D_bb := ne_of_none eD4 hxb
      have n_D_eb := ne_of_none eD4 eb4
      have n_D_z0 := ne_of_none (s6 _ _ eD5) hz6
      have n_D_z1 := ne_of_none (s7 _ _ (s6 _ _ eD5)) hz7
      have n_aa_O := ne_of_none ia5 hO
      have n_ea_O := ne_of_none ie5 hO
      have n_bb_O := ne_of_none ib5 hO
      have n_eb_O := ne_of_none ieb5 hO
      have n_O_z0 := ne_of_none eO hz6
      have n_O_z1 := ne_of_none (s7 _ _ eO) hz7
      have s58 := s6.trans (s7.trans s8)
      have n_aa_L := ne_of_none (s58 _ _ ia5) hL
      have n_ea_L := ne_of_none (s58 _ _ ie5) hL
      have n_bb_L := ne_of_none (s58 _ _ ib5) hL
      have n_eb_L := ne_of_none (s58 _ _ ieb5) hL
      have n_z0_L := ne_of_none (s8 _ _ ez0) hL
      have n_z1_L := ne_of_none ez1 hL
      have n_aa_n0 := ne_of_none (s6 _ _ ia5) hn0
      have n_ea_n0 := ne_of_none (s6 _ _ ie5) hn0
      have n_bb_n0 := ne_of_none (s6 _ _ ib5) hn0
      have n_eb_n0 := ne_of_none (s6 _ _ ieb5) hn0
      have n_n0_z1 := ne_of_none en0 hz7
      have n_aa_n1 := ne_of_none (s7 _ _ (s6 _ _ ia5)) hn1
      have n_ea_n1 := ne_of_none (s7 _ _ (s6 _ _ ie5)) hn1
      have n_bb_n1 := ne_of_none (s7 _ _ (s6 _ _ ib5)) hn1
      have n_eb_n1 := ne_of_none (s7 _ _ (s6 _ _ ieb5)) hn1
      have n_z0_n1 := ne_of_none ez0 hn1
      obtain ⟨F, hF⟩ : ∃ F : Fix, F = ⟨fun j => if j = 0 then aa else bb, fun j => if j = 0 then ea else eb, fun j => if j = 0 then z0 else z1, fun j => if j = 0 then r0 else r1, fun j => if j = 0 then lv0 else lv1, fun j => if j = 0 then hv0 else hv1, fun j => if j = 0 then ps0 else ps1, fun j => if j = 0 then hs0 else hs1, D, O, L⟩ := ⟨_, rfl⟩
      have hm : F.m = [aa, ea, z0, bb, eb, z1] := by rw [hF]; rfl
      have fx : Fx F := by
        refine ⟨?_, ?_, ?_, ?_, fun j hj => ?_⟩
        · rw [hm]
          simp [nae, nbe, n_aa_bb, n_ea_bb, n_aa_eb, n_ea_eb, n_aa_z0, n_ea_z0, n_aa_z1, n_ea_z1, n_bb_z1, n_eb_z1, n_z0_z1, Ne.symm n_bb_z0, Ne.symm n_eb_z0]
        · rw [hm, hF]
          simp [n_D_aa, n_D_ea, n_D_bb, n_D_eb, n_D_z0, n_D_z1]
        · rw [hm, hF]
          simp [Ne.symm n_aa_O, Ne.symm n_ea_O, Ne.symm n_bb_O, Ne.symm n_eb_O, n_O_z0, n_O_z1]
        · rw [hm, hF]
          simp [Ne.symm n_aa_L, Ne.symm n_ea_L, Ne.symm n_bb_L, Ne.symm n_eb_L, Ne.symm n_z0_L, Ne.symm n_z1_L]
        · rw [hF]
          match j, hj with
          | 0, _ => exact ⟨g0, q0⟩
          | 1, _ => exact ⟨g1, q1⟩
      have st39 : Stay H3 H9 := fun b o e nt => s59 _ _ (st35 b o e nt)
      have two : Two T F F.m H9 ⟨fun _ => [], fun _ => [], fun j => if j = 0 then bg else 0, fun j => if j = 0 then [.ref x0] else [.ref x1]⟩ 0 := by
        refine ⟨by rw [hF]; exact s59 _ _ eD5, by rw [hF]; exact s69 _ _ eO, by rw [hF]; exact eL, fun j hj => ?_⟩
        rw [hm, hF]
        match j, hj with
        | 0, _ =>
          refine ⟨ms45.same s59, (s8.trans s9) _ _ ez0, ⟨⟨x0, n0, rfl, (s8.trans s9) _ _ ex0, (s8.trans s9) _ _ en0, ?_⟩, trivial⟩, st39 _ _ er0 (fun _ q => nomatch q), oL0.ts (stay_ts st39) (tup_lims' _), oH0.ts (stay_ts st39) (tupD_ints _), Nat.le_refl _, fun e he => ?_⟩
          · simp [Ne.symm n_aa_n0, Ne.symm n_ea_n0, Ne.symm n_bb_n0, Ne.symm n_eb_n0, nz0, n_n0_z1]
          · rw [List.mem_singleton.mp he]
            exact ⟨stn_nil g0 bg0, Nat.le_refl _, by show bg ≤ _; omega⟩
        | 1, _ =>
          refine ⟨ms5.same s59, s9 _ _ ez1, ⟨⟨x1, n1, rfl, s9 _ _ ex1, s9 _ _ en1, ?_⟩, trivial⟩, st39 _ _ er1 (fun _ q => nomatch q), oL1.ts (stay_ts st39) (tup_lims' _), oH1.ts (stay_ts st39) (tupD_ints _), Nat.le_refl _, fun e he => ?_⟩
          · simp [Ne.symm n_aa_n1, Ne.symm n_ea_n1, Ne.symm n_bb_n1, Ne.symm n_eb_n1, nz1, Ne.symm n_z0_n1]
          · rw [List.mem_singleton.mp he]
            exact ⟨stn_nil g1 (Int.le_refl 0), Nat.le_refl _, by show (0 : Int) ≤ _; omega⟩
      have scr : Scr K H9 a0 (sc.map V.int) F.m := by
        have key : ∀ o, H a0 = some o → (∀ ps, o ≠ .tbl ps) → H9 a0 = some o ∧ a0 ∉ F.m := fun o e nt => by
          have e3 := m3.1 _ _ (s1 _ _ e) (ne_of_none e hp0) nt
          have e4 := st4 _ _ e3 nt
          have e5 := st35 _ _ e3 nt
          have e6 := s6 _ _ e5
          have e7 := s7 _ _ e6
          refine ⟨st39 _ _ e3 nt, ?_⟩
          rw [hm]
          simp [ne_of_none e3 hxa, ne_of_none e3 ea3, ne_of_none e4 hxb, ne_of_none e4 eb4, ne_of_none e6 hz6, ne_of_none e7 hz7]
        rcases hS with (h | ⟨o, h⟩) | h
        · obtain ⟨k1, k2⟩ := key _ h fun _ q => nomatch q
          exact ⟨.inl (.inl k1), .inr ⟨k2, by rw [k1]; exact fun q => nomatch q⟩⟩
        · obtain ⟨k1, k2⟩ := key _ h fun _ q => nomatch q
          exact ⟨.inl (.inr ⟨o, k1⟩), .inr ⟨k2, by rw [k1]; exact fun q => nomatch q⟩⟩
        · exact ⟨.inr h, .inl fun _ => .inr h⟩
      have hDF : D = F.S := by rw [hF]
      have hOF : O = F.O := by rw [hF]
      have hLF : L = F.L := by rw [hF]
      clear hF hm st39 ms45 ms4 ms5 st35 st4 st5
      subst hDF
      subst hOF
      subst hLF
      generalize (⟨fun _ => [], fun _ => [], fun j => if j = 0 then bg else 0, fun j => if j = 0 then [V.ref x0] else [V.ref x1]⟩ : Vr) = w0 at two
      clear u4 u5 fr4 fr5 hM4 hM5 hea heb oR0 oR1 sm sn sn0 sx0 sz0 sn1 sx1 sz1 s6 s7 s8 s9 s59 s69 s58
      refine ⟨_, rfl, a0, _, rfl, .inl scr.1, _, _, rfl, _, _, rfl, _, rfl, ?_, ?_, for_range (lo := 0) (n := _) (fun i σ Hx => ∃ w : Vr, Two T F F.m Hx w i ∧ Scr K Hx a0 (sc.map V.int) F.m ∧ ∃ v1 v3 v7 v8 v9 v10 : Option V, σ = [some (.ref a0), v1, some (.ref F.S), v3, some (.ref G), some (.ref F.O), some (.ref F.L), v7, v8, v9, v10]) ⟨w0, two, scr, _, _, none, none, none, none, rfl⟩ ?_ ?_⟩
      · split <;> split <;> omega
      · split <;> split <;> omega
      · rintro i σ Hx hi ⟨ww, tw, sx, v1', v3', v7, v8, v9, v10, rfl⟩
        have hi40 : i < 40 := by
          refine Nat.lt_of_lt_of_le hi ?_
          split <;> split <;> omega
        refine gn ?_
        dsimp only
        refine ⟨_, rfl, _, rfl, a0, sc, (i : Int), by rw [Int.zero_add]; rfl, sx.1, by omega, by omega, fun q H10 hq hwq s10 => gn ?_⟩
        dsimp only
        refine ⟨_, rfl, q, 2, rfl, hwq, by decide, by decide, fun sd H11 sd0 sd1 w11 b11 => gn ?_⟩
        obtain ⟨j, rfl⟩ : ∃ j : Nat, sd = (j : Nat) := ⟨sd.toNat, by omega⟩
        have hj : j < 2 := by omega
        have qm : q ∉ F.m := fun z => tw.alloc q z hq
        have nq : ∀ {y o}, Hx y = some o → y ≠ q := fun {y o} e z => by rw [z, hq] at e; cases e
        have two10 := (tw.more hq).same s10
        have ap := fx.apart qm hj
        have cur10 := two10.cur hj hwq
        have cur11 := cur10.but ap b11 w11
        have eS := b11 _ _ two10.hS (nq tw.hS)
        have eO := b11 _ _ two10.hO (nq tw.hO)
        have eL := b11 _ _ two10.hL (nq tw.hL)
        have t11 := but_ts hwq b11
        have cj := t11 _ _ (two10.d j hj).c
        have al11 : ∀ y ∈ q :: F.m, H11 y ≠ none := fun y hy => cur11.alloc (Fr.but b11) (fun y hy z => by
          rcases List.mem_cons.mp hy with rfl | hy
          · obtain ⟨_, _, _, ew⟩ := hwq
            rw [ew] at z; cases z
          · exact two10.alloc y hy z) y hy
        dsimp only
        refine ⟨_, rfl, _, rfl, F.S, _, _, _, rfl, rfl, SqL.of eS, at2 (f := fun j => V.ref (F.r j)) rfl rfl hj, F.r j, _, rfl, SqT.of cj, rfl, _, _, rfl, _, _, rfl, rfl, ?_⟩
        dsimp only
        refine ⟨_, rfl, _, rfl, _, rfl, F.O, _, _, _, rfl, rfl, SqL.of eO, at2 (f := fun j => V.ref (F.a j)) rfl rfl hj, _, rfl, _, rfl, _, rfl, _, rfl, F.L, _, _, _, rfl, rfl, SqL.of eL, at2 (f := fun j => V.ref (F.s j)) rfl rfl hj, q, F.a j, F.e j, F.s j, F.lv j, F.hv j, .ref (F.r j), q :: F.m, ww.stk j, F.ps j, F.hs j, ww.ns j, ww.t j, ww.vl j, i, rfl, cur11, ap, (tw.d j hj).ok, by omega, (fx.g j hj).1, (fx.g j hj).2, al11, fun H12 vl' stk' ns' t' fr12 cur12 oks' => ⟨_, rfl, iteF (next_of ?_)⟩⟩
        have fr := (Fr.but b11).trans fr12
        have two12 := Two.deed fx tw hq s10 hj fr cur10 cur12 oks'
        have sc12 : Scr K H12 a0 (sc.map V.int) F.m := sx.fr (p := q) (fun b o e n => fr b o (s10 _ _ e) n) (fun y hy => by
          rcases List.mem_cons.mp (fx.sub hj y hy) with e | e
          · exact .inl e
          · exact .inr e) fun _ h z => h (by rw [z]; exact hq)
        generalize ww.put j stk' ns' t' vl' = w2 at *
        clear tw sx two10 cur10 cur11 cur12 fr fr12 b11 w11 al11 eS eO eL t11 cj s10 hwq hq qm nq ap oks'
        dsimp only
        refine ⟨2, rfl, by decide, by decide, for_range (lo := 0) (n := _) (fun i2 σ Hy => Two T F F.m Hy w2 (i + 1) ∧ Scr K Hy a0 (sc.map V.int) F.m ∧ ∃ v10 : Option V, σ = [some (.ref a0), some (.ref q), some (.ref F.S), some (.int (0 + (i : Int))), some (.ref G), some (.ref F.O), some (.ref F.L), some (.int (j : Nat)), some (F.lv j), some (F.hv j), v10]) ⟨two12, sc12, v10, rfl⟩ ?_ ?_⟩
        · rintro i2 σ Hy hi2 ⟨ty, sy, v10', rfl⟩
          have hk : i2 < 2 := hi2
          obtain ⟨vl1, v, ev, stx⟩ := ty.last hk
          have dk := ty.d i2 hk
          have el := dk.l
          rw [ev] at el
          refine gn ?_
          dsimp only
          rw [Int.zero_add ((i2 : Nat) : Int)]
          refine ⟨_, rfl, _, rfl, F.O, _, _, _, rfl, rfl, SqL.of ty.hO, at2 (f := fun j => V.ref (F.a j)) rfl rfl hk, _, rfl, _, rfl, F.S, _, _, _, rfl, rfl, SqL.of ty.hS, at2 (f := fun j => V.ref (F.r j)) rfl rfl hk, F.r i2, _, 0, _, rfl, rfl, SqT.of dk.c, atI_nat (j := 0) rfl, _, rfl, _, rfl, F.S, _, _, _, rfl, rfl, SqL.of ty.hS, at2 (f := fun j => V.ref (F.r j)) rfl rfl hk, F.r i2, _, 1, _, rfl, rfl, SqT.of dk.c, atI_nat (j := 1) rfl, _, rfl, _, rfl, F.L, _, _, _, rfl, rfl, SqL.of ty.hL, at2 (f := fun j => V.ref (F.s j)) rfl rfl hk, _, rfl, F.s i2, _, -1, _, rfl, rfl, SqL.of el, atI_end _ _, ?_⟩
          dsimp only [tNil, List.cons_append, List.nil_append, List.append_nil]
          exact Two.state fx ty (by omega) hk stx fun H' s => ⟨_, rfl, iteF ⟨ty.same s, sy.same s, _, rfl⟩⟩
        · rintro σ Hy ⟨ty, sy, v10', rfl⟩
          exact ⟨w2, ty, sy, _, _, _, _, _, _, rfl⟩
      · rintro σ Hx ⟨ww, tw, sx, v1', v3', v7, v8, v9, v10, rfl⟩
        obtain ⟨N, hN, tw, N40⟩ : ∃ N : Nat, N = N ∧ Two T F F.m Hx ww N ∧ N ≤ 40 := ⟨_, rfl, tw, by split <;> split <;> omega⟩
        clear hN sx two scr
        have fT : ∀ b : Bool, (PyData.bool b).showable = true ∧ (PyData.bool b).depth ≤ 60 ∧ (PyData.bool b).shown.length ≤ sizeLine := fun b => (small_bl b).facts (by decide) (by decide)
        refine ⟨2, rfl, by decide, by decide, for_range (lo := 0) (n := _) (fun i σ Hy => ∃ w : Vr, Two T F F.m Hy w N ∧ ∃ v1 v3 v7 v8 v9 v10 : Option V, σ = [some (.ref a0), v1, some (.ref F.S), v3, some (.ref G), some (.ref F.O), some (.ref F.L), v7, v8, v9, v10]) ⟨ww, tw, _, _, _, _, _, _, rfl⟩ ?_ ?_⟩
        · rintro i σ Hy hi ⟨w1, t1, u1, u3, u7, u8, u9, u10, rfl⟩
          have hk : i < 2 := hi
          have d1' := t1.d i hk
          refine gn ?_
          dsimp only
          rw [Int.zero_add]
          have hvl : (w1.vl i).length = (w1.stk i).length + 1 := by rw [d1'.r.len, List.length_append]; rfl
          have hst : (w1.stk i).length ≤ N := by
            have := d1'.ok.1
            rw [List.length_append] at this
            have : (w1.stk i).length + 1 ≤ N + 1 := this
            omega
          refine ⟨_, rfl, _, rfl, F.L, _, _, _, rfl, rfl, SqL.of t1.hL, at2 (f := fun j => V.ref (F.s j)) rfl rfl hk, F.s i, _, rfl, .inl (SqL.of d1'.l), _, _, rfl, rfl, _, rfl, by omega, by omega, for_range (lo := 0) (n := _) (fun m σ Hz => ∃ w : Vr, Two T F F.m Hz w N ∧ (w.stk i).length + m = (w1.stk i).length ∧ ∃ v3 : Option V, σ = [some (.ref a0), u1, some (.ref F.S), v3, some (.ref G), some (.ref F.O), some (.ref F.L), u7, u8, u9, some (.int (i : Nat))]) ⟨w1, t1, rfl, _, rfl⟩ ?_ ?_⟩
          · rintro m σ Hz hm ⟨w2, t2, hlen, v3, rfl⟩
            have hm : m < (w1.stk i).length := by omega
            obtain ⟨vl1, v, ev, stx⟩ := t2.last hk
            have dk := t2.d i hk
            have el := dk.l
            rw [ev] at el
            rcases List.eq_nil_or_concat (w2.stk i) with hst0 | ⟨st0, e, hst0⟩
            · rw [hst0] at hlen
              have : 0 + m = (w1.stk i).length := hlen
              omega
            rw [List.concat_eq_append] at hst0
            refine gn ?_
            dsimp only
            refine ⟨_, rfl, _, rfl, F.L, _, _, _, rfl, rfl, SqL.of t2.hL, at2 (f := fun j => V.ref (F.s j)) rfl rfl hk, .inl ⟨rfl, _, SqL.of el⟩, F.s i, _, v, rfl, rfl, el, by simp, ?_⟩
            rw [List.dropLast_concat]
            have ap := fx.apart fx.S hk
            have hO2 : upd Hz (F.s i) (.lst vl1) F.O = some (.lst [.ref (F.a 0), .ref (F.a 1)]) := (upd_ne fun z => fx.O (by
              rw [z]
              unfold Fix.m
              match i, hk with
              | 0, _ => simp
              | 1, _ => simp)).trans t2.hO
            have m3 := dk.m.ts (ts_put el (o := .lst vl1)) (upd_ne (Ne.symm ap.ha)) (upd_ne (Ne.symm ap.he))
            obtain ⟨_, _, _, ha3, _⟩ := id m3
            refine ⟨_, rfl, _, rfl, F.O, _, _, _, rfl, rfl, SqL.of hO2, at2 (f := fun j => V.ref (F.a j)) rfl rfl hk, F.a i, _, _, rfl, ha3, rfl, F.a i, F.e i, w2.stk i, .ref (F.r i), F.ps i, F.hs i, w2.ns i, w2.t i, rfl, m3, ap.ae, by omega, fun z => absurd z (by rw [hst0]; simp), fun st1 e1 he H4 fr4 m4 => ?_⟩
            rw [hst0] at he
            obtain ⟨e2, e3⟩ := List.append_inj' he rfl
            injection e3 with e3
            subst e2
            subst e3
            refine ⟨_, .bool true, rfl, .bl _, (fT true).1, (fT true).2.1, (fT true).2.2, rfl, _, rfl, ?_⟩
            rw [show (PyData.bool true).shown = "True" from by decide +kernel, decide_eq_true rfl]
            refine iteF (next_of ?_)
            dsimp only
            have t4 := Two.back fx t2 hk hst0 ev fr4 m4
            obtain ⟨vl4, v4, ev4, stx4⟩ := t4.last hk
            have d4 := t4.d i hk
            have el4 := d4.l
            rw [ev4] at el4
            have hlen4 : ((w2.put i st0 e.1 e.2 vl1).stk i).length + (m + 1) = (w1.stk i).length := by
              unfold Vr.put
              simp only [if_pos]
              rw [hst0, List.length_append] at hlen
              have : st0.length + 1 + m = (w1.stk i).length := hlen
              omega
            generalize w2.put i st0 e.1 e.2 vl1 = w4 at *
            refine ⟨_, rfl, _, rfl, F.O, _, _, _, rfl, rfl, SqL.of t4.hO, at2 (f := fun j => V.ref (F.a j)) rfl rfl hk, _, rfl, _, rfl, F.S, _, _, _, rfl, rfl, SqL.of t4.hS, at2 (f := fun j => V.ref (F.r j)) rfl rfl hk, F.r i, _, 0, _, rfl, rfl, SqT.of d4.c, atI_nat (j := 0) rfl, _, rfl, _, rfl, F.S, _, _, _, rfl, rfl, SqL.of t4.hS, at2 (f := fun j => V.ref (F.r j)) rfl rfl hk, F.r i, _, 1, _, rfl, rfl, SqT.of d4.c, atI_nat (j := 1) rfl, _, rfl, _, rfl, F.L, _, _, _, rfl, rfl, SqL.of t4.hL, at2 (f := fun j => V.ref (F.s j)) rfl rfl hk, _, rfl, F.s i, _, -1, _, rfl, rfl, SqL.of el4, atI_end _ _, ?_⟩
            dsimp only [tNil, List.cons_append, List.nil_append, List.append_nil]
            exact Two.state fx t4 (by omega) hk stx4 fun H' s => ⟨_, rfl, iteF ⟨w4, t4.same s, hlen4, _, rfl⟩⟩
          · rintro σ Hz ⟨w2, t2, hlen, v3, rfl⟩
            have h0 : w2.stk i = [] := List.length_eq_zero_iff.mp (by omega)
            have dk := t2.d i hk
            have ap := fx.apart fx.S hk
            obtain ⟨_, _, _, ha3, _⟩ := id dk.m
            refine ⟨_, rfl, _, rfl, F.O, _, _, _, rfl, rfl, SqL.of t2.hO, at2 (f := fun j => V.ref (F.a j)) rfl rfl hk, F.a i, _, _, rfl, ha3, rfl, F.a i, F.e i, w2.stk i, .ref (F.r i), F.ps i, F.hs i, w2.ns i, w2.t i, rfl, dk.m, ap.ae, by rw [h0]; decide, fun _ => ?_, fun st1 e1 he => absurd he (by rw [h0]; simp)⟩
            refine ⟨_, .bool false, rfl, .bl _, (fT false).1, (fT false).2.1, (fT false).2.2, rfl, _, rfl, ?_⟩
            rw [show (PyData.bool false).shown = "False" from by decide +kernel, decide_eq_true rfl]
            exact iteF ⟨w2, t2, _, _, _, _, _, _, rfl⟩
        · rintro σ Hy ⟨w1, t1, u1, u3, u7, u8, u9, u10, rfl⟩
          exact k _
end
end KP

set_option Elab.async false
set_option maxRecDepth 100000
set_option maxHeartbeats 8000000
set_option linter.all false
namespace KP
open PySem PySem.Spec PyProof.Rows L2 Gr GxR PySem.W
/-! what is asked of the written part -/
def hasRef : Option Value → Addr → Bool
  | some (.ref a), q => a == q
  | _, _ => false
def isStrV : Value → Bool
  | .str _ _ => true
  | _ => false
def isIntV : Value → Bool
  | .int _ _ => true
  | _ => false
def isBoolV : Value → Bool
  | .bool _ => true
  | _ => false
def hdB (K : Frag) (c q : Addr) : Bool := match K.lookup c with
  | some ⟨.type n, _, .fields vs, _⟩ => n == "code" && (hasRef vs[11]? q && (isStrV (vs.getD 18 .none) && (isIntV (vs.getD 7 .none) && (isBoolV (vs.getD 9 .none) && isIntV (vs.getD 10 .none)))))
  | _ => false
theorem hdB_ok {K : Frag} {h : Heap} {c q : Addr} (X : K.In h) (n : c ≠ q) (e : hdB K c q = true) : CodeHd h c q := by
  unfold hdB at e
  split at e
  · rename_i nm od vs sl hk
    simp only [Bool.and_eq_true, beq_iff_eq] at e
    obtain ⟨rfl, e1, e2, e3, e4, e5⟩ := e
    have r : vs[11]? = some (.ref q) := by
      cases hv : vs[11]? with
      | none => rw [hv] at e1; cases e1
      | some v =>
        rw [hv] at e1
        cases v with
        | ref a =>
          have : (a == q) = true := e1
          rw [beq_iff_eq.mp this]
        | _ => cases e1
    have r2 : vs.getD 11 .none = .ref q := by rw [Array.getD_eq_getD_getElem?, r]; rfl
    generalize h18 : vs.getD 18 .none = v18 at e2
    generalize h7 : vs.getD 7 .none = v7 at e3
    generalize h9 : vs.getD 9 .none = v9 at e4
    generalize h10 : vs.getD 10 .none = v10 at e5
    cases v18 <;> first | cases e2 | skip
    cases v7 <;> first | cases e3 | skip
    cases v9 <;> first | cases e4 | skip
    cases v10 <;> first | cases e5 | skip
    exact ⟨_, vs, _, _, _, _, _, _, _, X _ _ hk, rfl, rfl, r, r2, h18, h7, h9, h10, n⟩
  · cases e
theorem rangeOf {k : Nat} {t : Nat → Bool} (h : (List.range k).all t = true) {n : Nat} (hn : n < k) : t n = true := List.all_eq_true.mp h n (List.mem_range.mpr hn)
def bis : List Str := ("abs" : Str) :: ("all" : Str) :: ("bool" : Str) :: ("divmod" : Str) :: ("int" : Str) :: ("isinstance" : Str) :: ("len" : Str) :: ("list" : Str) :: ("max" : Str) :: ("min" : Str) :: ("property" : Str) :: ("range" : Str) :: ("repr" : Str) :: ("sum" : Str) :: ("tuple" : Str) :: []
def chkN (K : Frag) : Bool := (List.range 15).all fun n => decide (nsIn K mainGlobals (bis.getD n "") = some none)
theorem nameN {K : Frag} {h : Heap} {mg : Str → Option Value} (X : K.In h) (G : h.Ns mainGlobals mg) (c : chkN K = true) (n : Nat) (hn : n < 15) : mg (bis.getD n "") = none := mg_none_of X G (of_decide_eq_true (rangeOf c hn))
def fnm : List Str := ("opens" : Str) :: ("next_open" : Str) :: ("next_ask" : Str) :: ("soonest_asks" : Str) :: ("is_whole" : Str) :: ("is_between" : Str) :: ("is_tuple" : Str) :: ("check_from" : Str) :: ("check_between" : Str) :: ("is_limit" : Str) :: ("are_limits" : Str) :: ("are_hours" : Str) :: ("are_rules" : Str) :: ("check_rules" : Str) :: ("check_amount" : Str) :: ("span_of" : Str) :: ("room" : Str) :: ("has_room" : Str) :: ("shifted" : Str) :: ("_law_well" : Str) :: ("_law_pick" : Str) :: ("_law_one" : Str) :: ("_law_open" : Str) :: ("_law_may" : Str) :: ("_law_soonest" : Str) :: ("_law_some_limits" : Str) :: ("_law_some_hours" : Str) :: ("_law_asked" : Str) :: ("_law_state_right" : Str) :: ("_law_deed_right" : Str) :: ("law" : Str) :: []
def fad : List Addr := [21, 28, 33, 40, 110, 117, 124, 131, 138, 145, 152, 159, 166, 173, 180, 185, 190, 197, 204, 317, 324, 331, 338, 343, 350, 355, 360, 367, 372, 379, 386]
def chkF (K : Frag) : Bool := (List.range 31).all fun n => decide (nsIn K mainGlobals (fnm.getD n "") = some (some (.ref (fad.getD n 0)))) && keepIn K (.ref (fad.getD n 0))
theorem nameF {K : Frag} {h : Heap} {mg : Str → Option Value} (X : K.In h) (G : h.Ns mainGlobals mg) (c : chkF K = true) (n : Nat) (hn : n < 31) : mg (fnm.getD n "") = some (.ref (fad.getD n 0)) ∧ keepIn K (.ref (fad.getD n 0)) = true := by
  have q := rangeOf c hn
  simp only [Bool.and_eq_true, decide_eq_true_eq] at q
  exact ⟨mg_of X G q.1, q.2⟩
def chkS (K : Frag) : Bool := match K.lookup sysModules with
  | some ⟨_, _, .dict _ _, _⟩ => true
  | _ => false
theorem sysM_of {K : Frag} (h : chkS K = true) : SysM K := by
  unfold chkS at h
  split at h
  · rename_i es n _ q
    exact ⟨_, es, n, q, rfl⟩
  · cases h
def recHd (K : Frag) (a g : Addr) : Bool := match recIn K a "property" with
  | some (.ref x :: _) => x == g
  | _ => false
theorem recHd_ok {K : Frag} {a g : Addr} (h : recHd K a g = true) : ∃ rest, recIn K a "property" = some (.ref g :: rest) := by
  unfold recHd at h
  split at h
  · rename_i x r q
    exact ⟨r, by rw [q, beq_iff_eq.mp h]⟩
  · cases h
/-- defaults: the tuple at the place holds the int -/
def chkDf (K : Frag) (a : Addr) (m : Int) : Bool := match K.lookup a with
  | some ⟨_, _, .seq its _, _⟩ => (match its.toList with | [.int i _] => i == m | _ => false)
  | _ => false
theorem fun_mkP {K K0 : Frag} {x qual : Str} {m : Int} {st : Stmt} {f a : Addr} {oc : Value} {od an : Option Addr} {osl : Array (Option Value)} {kV doc pm cdv ct : Value} (hK : ∀ b, b ≠ sysModules → K.lookup b = K0.lookup b) (ne : f ≠ sysModules)
    (l : K0.lookup f = some ⟨oc, od, .func (fnOf x qual (defArgs st) (defBody st) (defScope st) (.ref a) kV doc pm an cdv ct), osl⟩) (c : codeIn K cdv qual = true) (q : chkDf K a m = true) : ∃ fd, keepIn K (.ref f) = true → FunD K x qual (defArgs st) (defBody st) (defScope st) [.int m] [] f fd := by
  refine ⟨_, fun k => ⟨⟨oc, od, .ref a, kV, doc, pm, an, cdv, ct, osl, rfl, (hK _ ne).trans l, c, .inr ⟨List.cons_ne_nil _ _, ?_⟩, .inl rfl⟩, k⟩⟩
  unfold chkDf at q
  split at q
  · rename_i c0 d0 its n0 sl0 e
    split at q
    · rename_i i t hi
      refine ⟨a, _, its.toList, n0, rfl, e, by simp, ?_⟩
      rw [hi, beq_iff_eq.mp q]
      exact .cons ⟨t, rfl⟩ .nil
    · cases q
  · cases q
def chkKw (K : Frag) (D : Addr) (x : Str) (n : Int) : Bool := match nsIn K D x with
  | some (some (.int m _)) => m == n
  | _ => false
theorem fun_mkK {K K0 : Frag} {x qual y : Str} {n : Int} {st : Stmt} {f D : Addr} {oc : Value} {od an : Option Addr} {osl : Array (Option Value)} {doc pm cdv ct : Value} (hK : ∀ b, b ≠ sysModules → K.lookup b = K0.lookup b) (ne : f ≠ sysModules)
    (l : K0.lookup f = some ⟨oc, od, .func (fnOf x qual (defArgs st) (defBody st) (defScope st) .none (.ref D) doc pm an cdv ct), osl⟩) (c : codeIn K cdv qual = true) (q : chkKw K D y n = true) : ∃ fd, keepIn K (.ref f) = true → FunD K x qual (defArgs st) (defBody st) (defScope st) [] [(y, .int n)] f fd := by
  refine ⟨_, fun k => ⟨⟨oc, od, .none, .ref D, doc, pm, an, cdv, ct, osl, rfl, (hK _ ne).trans l, c, .inl ⟨rfl, rfl⟩, .inr ⟨D, rfl, fun z hz => ?_⟩⟩, k⟩⟩
  rw [List.mem_singleton.mp hz]
  unfold chkKw at q
  split at q
  · rename_i m t e
    exact ⟨_, e, t, by rw [beq_iff_eq.mp q]⟩
  · cases q
def prnMonitor : List Str := ("rules" : Str) :: ("moment" : Str) :: ("counts" : Str) :: ("asked" : Str) :: []
def praMonitor : List Addr := [227, 235, 243, 251]
def prgMonitor : List Addr := [226, 234, 242, 250]
def chkPMonitor (K : Frag) : Bool := (List.range 4).all fun n => decide (findIn K (.ref 306) (prnMonitor.getD n "") = some (some (.ref (praMonitor.getD n 0)))) && (decide (specialIn K (.ref (praMonitor.getD n 0)) "__get__" = some (some (.builtin "property.__get__"))) && (decide (takesIn K (.ref (praMonitor.getD n 0)) = some true) && (recHd K (praMonitor.getD n 0) (prgMonitor.getD n 0) && keepIn K (.ref (prgMonitor.getD n 0)))))
theorem propMonitor {K : Frag} (c : chkPMonitor K = true) (n : Nat) (hn : n < 4) : PropOf K 306 (prnMonitor.getD n "") (praMonitor.getD n 0) (prgMonitor.getD n 0) ∧ keepIn K (.ref (prgMonitor.getD n 0)) = true := by
  have q := rangeOf c hn
  simp only [Bool.and_eq_true, decide_eq_true_eq] at q
  exact ⟨⟨q.1, q.2.1, q.2.2.1, recHd_ok q.2.2.2.1⟩, q.2.2.2.2⟩
def chkMonitor (K : Frag) : Bool := plainGet K 306 Str.empty && (hasDictIn K 306 && (plainOver K 306 && (decide (findIn K (.ref 306) "__setattr__" = some (some (.builtin "object.__setattr__"))) && (decide (nsIn K mainGlobals "Monitor" = some (some (.ref 306))) && (makesIn K 306 && (decide (findIn K (.ref 306) "__init__" = some (some (.ref 219))) && keepIn K (.ref 306)))))))
def fldMonitor : List Str := ("_asked" : Str) :: ("_counts" : Str) :: ("_earlier" : Str) :: ("_moment" : Str) :: ("_rules" : Str) :: []
def chkAMonitor (K : Frag) : Bool := (List.range 5).all fun n => decide (findIn K (.ref 306) (fldMonitor.getD n "") = some none)
theorem noAMonitor {K : Frag} (c : chkAMonitor K = true) (n : Nat) (hn : n < 5) : findIn K (.ref 306) (fldMonitor.getD n "") = some none := of_decide_eq_true (rangeOf c hn)
def metMonitor : List Str := ("__init__" : Str) :: ("_check" : Str) :: ("_counts_then" : Str) :: ("_asked_then" : Str) :: ("lets" : Str) :: ("ask" : Str) :: ("soonest" : Str) :: ("undo" : Str) :: []
def madMonitor : List Addr := [219, 258, 265, 272, 280, 288, 296, 303]
def chkMMonitor (K : Frag) : Bool := (List.range 8).all fun n => decide (findIn K (.ref 306) (metMonitor.getD n "") = some (some (.ref (madMonitor.getD n 0)))) && (isFn K (.ref (madMonitor.getD n 0)) && keepIn K (.ref (madMonitor.getD n 0)))
theorem methMonitor {K : Frag} (c : chkMMonitor K = true) (n : Nat) (hn : n < 8) : Meth K 306 (metMonitor.getD n "") (madMonitor.getD n 0) := by
  have q := rangeOf c hn
  simp only [Bool.and_eq_true, decide_eq_true_eq] at q
  exact ⟨q.1, q.2.1, q.2.2⟩
theorem fun_mkS {K K0 : Frag} {x qual : Str} {st : Stmt} {f : Addr} {oc : Value} {od an : Option Addr} {osl : Array (Option Value)} {kV doc pm cdv ct : Value} (hK : ∀ b, b ≠ sysModules → K.lookup b = K0.lookup b) (ne : f ≠ sysModules)
    (l : K0.lookup f = some ⟨oc, od, .func (fnOf x qual (defArgs st) (defBody st) (defScope st) .none kV doc pm an cdv ct), osl⟩) (c : codeIn K cdv qual = true) : ∃ fd, keepIn K (.ref f) = true → Fun K x qual st f fd :=
  ⟨_, fun k => fun_mk ((hK _ ne).trans l) c k⟩
theorem fun_mkC {K K0 : Frag} {x qual : Str} {st : Stmt} {f c : Addr} {oc : Value} {od an : Option Addr} {osl : Array (Option Value)} {kV doc pm ct : Value} (hK : ∀ b, b ≠ sysModules → K.lookup b = K0.lookup b) (ne : f ≠ sysModules)
    (l : K0.lookup f = some ⟨oc, od, .func (fnOf x qual (defArgs st) (defBody st) (defScope st) .none kV doc pm an (.ref c) ct), osl⟩) (cc : codeIn K (.ref c) qual = true) : ∃ fd, keepIn K (.ref f) = true → FunC K x qual st f fd c :=
  ⟨_, fun k => ⟨⟨oc, od, kV, doc, pm, an, ct, osl, rfl, (hK _ ne).trans l, cc⟩, k⟩⟩
def chkInt (K : Frag) (x : Str) (n : Int) : Bool := match nsIn K mainGlobals x with
  | some (some (.int m _)) => m == n
  | _ => false
def chkStr (K : Frag) (x : Str) (n : Str) : Bool := match nsIn K mainGlobals x with
  | some (some (.str m _)) => m == n
  | _ => false
theorem int_of {K : Frag} {x : Str} {n : Int} (h : chkInt K x n = true) : ∃ t, nsIn K mainGlobals x = some (some (.int n t)) := by
  unfold chkInt at h
  split at h
  · rename_i m t q
    exact ⟨t, by rw [q, beq_iff_eq.mp h]⟩
  · cases h
theorem str_of {K : Frag} {x : Str} {n : Str} (h : chkStr K x n = true) : ∃ t, nsIn K mainGlobals x = some (some (.str n t)) := by
  unfold chkStr at h
  split at h
  · rename_i m t q
    exact ⟨t, by rw [q, beq_iff_eq.mp h]⟩
  · cases h
/-- all that is asked of the written part -/
structure Facts (K : Frag) : Prop where
  n : chkN K = true
  f : chkF K = true
  s : chkS K = true
  cMonitor : chkMonitor K = true
  aMonitor : chkAMonitor K = true
  mMonitor : chkMMonitor K = true
  pMonitor : chkPMonitor K = true
  k0 : chkInt K "MOST_ASKS" 6 = true
  k1 : chkInt K "WIDEST" 12 = true
  k2 : chkInt K "MOST_PAIRS" 4 = true
  k3 : chkInt K "MOST_MOMENTS" 100 = true
  b1Barred : nsIn K mainGlobals "Barred" = some (some (.ref 101))
  b2Barred : excIn K 101 [.type "ValueError", .type "Exception", .type "BaseException", .type "object"] "ValueError.__new__" = true
  b3Barred : keepIn K (.ref 101) = true
  b4Barred : subIn K (.ref 101) (.type "BaseException") = some true
  b5Barred : typeIn K (.ref 101) = some (.type "type")
  b6Barred : exmOne K (.ref 101) (.ref 101) = some true
  d0 : ∃ fd, keepIn K (.ref 21) = true → Fun K "opens" "opens" s_opens 21 fd
  d1 : ∃ fd, keepIn K (.ref 28) = true → Fun K "next_open" "next_open" s_next_open 28 fd
  d2 : ∃ fd, keepIn K (.ref 33) = true → Fun K "next_ask" "next_ask" s_next_ask 33 fd
  d3 : ∃ fd, keepIn K (.ref 40) = true → Fun K "soonest_asks" "soonest_asks" s_soonest_asks 40 fd
  d4 : ∃ fd, keepIn K (.ref 110) = true → Fun K "is_whole" "is_whole" s_is_whole 110 fd
  d5 : ∃ fd, keepIn K (.ref 117) = true → Fun K "is_between" "is_between" s_is_between 117 fd
  d6 : ∃ fd, keepIn K (.ref 124) = true → Fun K "is_tuple" "is_tuple" s_is_tuple 124 fd
  d7 : ∃ fd, keepIn K (.ref 131) = true → Fun K "check_from" "check_from" s_check_from 131 fd
  d8 : ∃ fd, keepIn K (.ref 138) = true → Fun K "check_between" "check_between" s_check_between 138 fd
  d9 : ∃ fd, keepIn K (.ref 145) = true → Fun K "is_limit" "is_limit" s_is_limit 145 fd
  d10 : ∃ fd, keepIn K (.ref 152) = true → FunC K "are_limits" "are_limits" s_are_limits 152 fd 151
  t10 : hdB K 151 147 = true
  o10 : (K.lookup 147).isNone = true
  d11 : ∃ fd, keepIn K (.ref 159) = true → FunC K "are_hours" "are_hours" s_are_hours 159 fd 158
  t11 : hdB K 158 154 = true
  o11 : (K.lookup 154).isNone = true
  d12 : ∃ fd, keepIn K (.ref 166) = true → Fun K "are_rules" "are_rules" s_are_rules 166 fd
  d13 : ∃ fd, keepIn K (.ref 173) = true → Fun K "check_rules" "check_rules" s_check_rules 173 fd
  d14 : ∃ fd, keepIn K (.ref 180) = true → Fun K "check_amount" "check_amount" s_check_amount 180 fd
  d15 : ∃ fd, keepIn K (.ref 185) = true → Fun K "span_of" "span_of" s_span_of 185 fd
  d16 : ∃ fd, keepIn K (.ref 190) = true → Fun K "room" "room" s_room 190 fd
  d17 : ∃ fd, keepIn K (.ref 197) = true → Fun K "has_room" "has_room" s_has_room 197 fd
  d18 : ∃ fd, keepIn K (.ref 204) = true → Fun K "shifted" "shifted" s_shifted 204 fd
  d19 : ∃ fd, keepIn K (.ref 219) = true → FunD K "__init__" "Monitor.__init__" (defArgs s_init) (defBody s_init) (defScope s_init) [] [("moment", .int 0)] 219 fd
  d20 : ∃ fd, keepIn K (.ref 226) = true → Fun K "rules" "Monitor.rules" s_rules 226 fd
  d21 : ∃ fd, keepIn K (.ref 234) = true → Fun K "moment" "Monitor.moment" s_moment 234 fd
  d22 : ∃ fd, keepIn K (.ref 242) = true → Fun K "counts" "Monitor.counts" s_counts 242 fd
  d23 : ∃ fd, keepIn K (.ref 250) = true → Fun K "asked" "Monitor.asked" s_asked 250 fd
  d24 : ∃ fd, keepIn K (.ref 258) = true → Fun K "_check" "Monitor._check" s__check 258 fd
  d25 : ∃ fd, keepIn K (.ref 265) = true → Fun K "_counts_then" "Monitor._counts_then" s__counts_then 265 fd
  d26 : ∃ fd, keepIn K (.ref 272) = true → Fun K "_asked_then" "Monitor._asked_then" s__asked_then 272 fd
  d27 : ∃ fd, keepIn K (.ref 280) = true → FunD K "lets" "Monitor.lets" (defArgs s_lets) (defBody s_lets) (defScope s_lets) [.int 1] [] 280 fd
  d28 : ∃ fd, keepIn K (.ref 288) = true → FunD K "ask" "Monitor.ask" (defArgs s_ask) (defBody s_ask) (defScope s_ask) [.int 1] [] 288 fd
  d29 : ∃ fd, keepIn K (.ref 296) = true → FunD K "soonest" "Monitor.soonest" (defArgs s_soonest) (defBody s_soonest) (defScope s_soonest) [.int 1] [] 296 fd
  d30 : ∃ fd, keepIn K (.ref 303) = true → Fun K "undo" "Monitor.undo" s_undo 303 fd
  d31 : ∃ fd, keepIn K (.ref 317) = true → Fun K "_law_well" "_law_well" s_l_well 317 fd
  d32 : ∃ fd, keepIn K (.ref 324) = true → Fun K "_law_pick" "_law_pick" s_l_pick 324 fd
  d33 : ∃ fd, keepIn K (.ref 331) = true → Fun K "_law_one" "_law_one" s_l_one 331 fd
  d34 : ∃ fd, keepIn K (.ref 338) = true → Fun K "_law_open" "_law_open" s_l_open 338 fd
  d35 : ∃ fd, keepIn K (.ref 343) = true → Fun K "_law_may" "_law_may" s_l_may 343 fd
  d36 : ∃ fd, keepIn K (.ref 350) = true → Fun K "_law_soonest" "_law_soonest" s_l_soonest 350 fd
  d37 : ∃ fd, keepIn K (.ref 355) = true → Fun K "_law_some_limits" "_law_some_limits" s_l_some_limits 355 fd
  d38 : ∃ fd, keepIn K (.ref 360) = true → Fun K "_law_some_hours" "_law_some_hours" s_l_some_hours 360 fd
  d39 : ∃ fd, keepIn K (.ref 367) = true → Fun K "_law_asked" "_law_asked" s_l_asked 367 fd
  d40 : ∃ fd, keepIn K (.ref 372) = true → Fun K "_law_state_right" "_law_state_right" s_l_state_right 372 fd
  d41 : ∃ fd, keepIn K (.ref 379) = true → Fun K "_law_deed_right" "_law_deed_right" s_l_deed_right 379 fd
  d42 : ∃ fd, keepIn K (.ref 386) = true → Fun K "law" "law" s_law 386 fd
theorem all_ok {P : Program} {w : World} {K : Frag} {h : Heap} {mg : Str → Option Value} {fa : Addr} (Z : Facts K) (X : K.In h) (G : h.Ns mainGlobals mg) (hfa : mg "law" = some (.ref fa)) (h147 : h.get? 147 = some (tabO #[])) (h154 : h.get? 154 = some (tabO #[])) :
    ∃ (fd : FuncData) (cs : List (Addr × Addr)) (sp : Sp), (∀ p ∈ cs, h.get? p.2 = some (tabO #[])) ∧ (∀ p ∈ cs, K.lookup p.2 = none) ∧ (∀ p ∈ cs, CodeHd h p.1 p.2) ∧ (∀ (s : Shared) (u : Value), BindsTo s fd ⟨[u], []⟩ [("_law_script", u)]) ∧
      (∀ (H : Hp) (a : Addr) (ns : List Int), ns.length ≤ 63 → (∀ p ∈ cs, H p.2 = some (.tbl #[])) → SqL K H a (ns.map V.int) → sp [.ref a] H (fun v _ => v = .bl true) fun _ _ _ => False) ∧
      ∀ base : Heap, K.In base → base.Ns mainGlobals mg → (∀ p ∈ cs, TabB base mg p.1 p.2) → FnQ P w K mg base CX0 10 fa fd ["_law_script"] sp := by
  have nf := nameF X G Z.f
  have nn := nameN X G Z.n
  have e := hfa.symm.trans (nf 30 (by decide)).1
  cases e
  obtain ⟨z0, u0⟩ := Z.d0
  have u0 := u0 (nf 0 (by decide)).2
  obtain ⟨z1, u1⟩ := Z.d1
  have u1 := u1 (nf 1 (by decide)).2
  obtain ⟨z2, u2⟩ := Z.d2
  have u2 := u2 (nf 2 (by decide)).2
  obtain ⟨z3, u3⟩ := Z.d3
  have u3 := u3 (nf 3 (by decide)).2
  obtain ⟨z4, u4⟩ := Z.d4
  have u4 := u4 (nf 4 (by decide)).2
  obtain ⟨z5, u5⟩ := Z.d5
  have u5 := u5 (nf 5 (by decide)).2
  obtain ⟨z6, u6⟩ := Z.d6
  have u6 := u6 (nf 6 (by decide)).2
  obtain ⟨z7, u7⟩ := Z.d7
  have u7 := u7 (nf 7 (by decide)).2
  obtain ⟨z8, u8⟩ := Z.d8
  have u8 := u8 (nf 8 (by decide)).2
  obtain ⟨z9, u9⟩ := Z.d9
  have u9 := u9 (nf 9 (by decide)).2
  obtain ⟨z10, u10⟩ := Z.d10
  have u10 := u10 (nf 10 (by decide)).2
  obtain ⟨z11, u11⟩ := Z.d11
  have u11 := u11 (nf 11 (by decide)).2
  obtain ⟨z12, u12⟩ := Z.d12
  have u12 := u12 (nf 12 (by decide)).2
  obtain ⟨z13, u13⟩ := Z.d13
  have u13 := u13 (nf 13 (by decide)).2
  obtain ⟨z14, u14⟩ := Z.d14
  have u14 := u14 (nf 14 (by decide)).2
  obtain ⟨z15, u15⟩ := Z.d15
  have u15 := u15 (nf 15 (by decide)).2
  obtain ⟨z16, u16⟩ := Z.d16
  have u16 := u16 (nf 16 (by decide)).2
  obtain ⟨z17, u17⟩ := Z.d17
  have u17 := u17 (nf 17 (by decide)).2
  obtain ⟨z18, u18⟩ := Z.d18
  have u18 := u18 (nf 18 (by decide)).2
  obtain ⟨z19, u19⟩ := Z.d19
  obtain ⟨z20, u20⟩ := Z.d20
  obtain ⟨z21, u21⟩ := Z.d21
  obtain ⟨z22, u22⟩ := Z.d22
  obtain ⟨z23, u23⟩ := Z.d23
  obtain ⟨z24, u24⟩ := Z.d24
  obtain ⟨z25, u25⟩ := Z.d25
  obtain ⟨z26, u26⟩ := Z.d26
  obtain ⟨z27, u27⟩ := Z.d27
  obtain ⟨z28, u28⟩ := Z.d28
  obtain ⟨z29, u29⟩ := Z.d29
  obtain ⟨z30, u30⟩ := Z.d30
  obtain ⟨z31, u31⟩ := Z.d31
  have u31 := u31 (nf 19 (by decide)).2
  obtain ⟨z32, u32⟩ := Z.d32
  have u32 := u32 (nf 20 (by decide)).2
  obtain ⟨z33, u33⟩ := Z.d33
  have u33 := u33 (nf 21 (by decide)).2
  obtain ⟨z34, u34⟩ := Z.d34
  have u34 := u34 (nf 22 (by decide)).2
  obtain ⟨z35, u35⟩ := Z.d35
  have u35 := u35 (nf 23 (by decide)).2
  obtain ⟨z36, u36⟩ := Z.d36
  have u36 := u36 (nf 24 (by decide)).2
  obtain ⟨z37, u37⟩ := Z.d37
  have u37 := u37 (nf 25 (by decide)).2
  obtain ⟨z38, u38⟩ := Z.d38
  have u38 := u38 (nf 26 (by decide)).2
  obtain ⟨z39, u39⟩ := Z.d39
  have u39 := u39 (nf 27 (by decide)).2
  obtain ⟨z40, u40⟩ := Z.d40
  have u40 := u40 (nf 28 (by decide)).2
  obtain ⟨z41, u41⟩ := Z.d41
  have u41 := u41 (nf 29 (by decide)).2
  obtain ⟨z42, u42⟩ := Z.d42
  have u42 := u42 (nf 30 (by decide)).2
  have u20 := u20 (propMonitor Z.pMonitor 0 (by decide)).2
  have u21 := u21 (propMonitor Z.pMonitor 1 (by decide)).2
  have u22 := u22 (propMonitor Z.pMonitor 2 (by decide)).2
  have u23 := u23 (propMonitor Z.pMonitor 3 (by decide)).2
  have qMonitor := Z.cMonitor
  unfold chkMonitor at qMonitor
  simp only [Bool.and_eq_true, decide_eq_true_eq] at qMonitor
  obtain ⟨r1, r2, r3, r4, r5, r6, r7, r8⟩ := qMonitor
  have u19 := u19 (methMonitor Z.mMonitor 0 (by decide)).kp
  have u24 := u24 (methMonitor Z.mMonitor 1 (by decide)).kp
  have u25 := u25 (methMonitor Z.mMonitor 2 (by decide)).kp
  have u26 := u26 (methMonitor Z.mMonitor 3 (by decide)).kp
  have u27 := u27 (methMonitor Z.mMonitor 4 (by decide)).kp
  have u28 := u28 (methMonitor Z.mMonitor 5 (by decide)).kp
  have u29 := u29 (methMonitor Z.mMonitor 6 (by decide)).kp
  have u30 := u30 (methMonitor Z.mMonitor 7 (by decide)).kp
  obtain ⟨w0, y0⟩ := int_of Z.k0
  obtain ⟨w1, y1⟩ := int_of Z.k1
  obtain ⟨w2, y2⟩ := int_of Z.k2
  obtain ⟨w3, y3⟩ := int_of Z.k3
  let T : D K mg :=
   {
    f_opens := 21,
    d_opens := z0,
    U_opens := u0,
    g_opens := (nf 0 (by decide)).1,
    f_next_open := 28,
    d_next_open := z1,
    U_next_open := u1,
    g_next_open := (nf 1 (by decide)).1,
    f_next_ask := 33,
    d_next_ask := z2,
    U_next_ask := u2,
    g_next_ask := (nf 2 (by decide)).1,
    f_soonest_asks := 40,
    d_soonest_asks := z3,
    U_soonest_asks := u3,
    g_soonest_asks := (nf 3 (by decide)).1,
    f_is_whole := 110,
    d_is_whole := z4,
    U_is_whole := u4,
    g_is_whole := (nf 4 (by decide)).1,
    f_is_between := 117,
    d_is_between := z5,
    U_is_between := u5,
    g_is_between := (nf 5 (by decide)).1,
    f_is_tuple := 124,
    d_is_tuple := z6,
    U_is_tuple := u6,
    g_is_tuple := (nf 6 (by decide)).1,
    f_check_from := 131,
    d_check_from := z7,
    U_check_from := u7,
    g_check_from := (nf 7 (by decide)).1,
    f_check_between := 138,
    d_check_between := z8,
    U_check_between := u8,
    g_check_between := (nf 8 (by decide)).1,
    f_is_limit := 145,
    d_is_limit := z9,
    U_is_limit := u9,
    g_is_limit := (nf 9 (by decide)).1,
    f_are_limits := 152,
    d_are_limits := z10,
    c_are_limits := 151,
    P_are_limits := 147,
    V_are_limits := u10,
    g_are_limits := (nf 10 (by decide)).1,
    f_are_hours := 159,
    d_are_hours := z11,
    c_are_hours := 158,
    P_are_hours := 154,
    V_are_hours := u11,
    g_are_hours := (nf 11 (by decide)).1,
    f_are_rules := 166,
    d_are_rules := z12,
    U_are_rules := u12,
    g_are_rules := (nf 12 (by decide)).1,
    f_check_rules := 173,
    d_check_rules := z13,
    U_check_rules := u13,
    g_check_rules := (nf 13 (by decide)).1,
    f_check_amount := 180,
    d_check_amount := z14,
    U_check_amount := u14,
    g_check_amount := (nf 14 (by decide)).1,
    f_span_of := 185,
    d_span_of := z15,
    U_span_of := u15,
    g_span_of := (nf 15 (by decide)).1,
    f_room := 190,
    d_room := z16,
    U_room := u16,
    g_room := (nf 16 (by decide)).1,
    f_has_room := 197,
    d_has_room := z17,
    U_has_room := u17,
    g_has_room := (nf 17 (by decide)).1,
    f_shifted := 204,
    d_shifted := z18,
    U_shifted := u18,
    g_shifted := (nf 18 (by decide)).1,
    f_init := 219,
    d_init := z19,
    W_init := u19,
    f_rules := 226,
    d_rules := z20,
    U_rules := u20,
    f_moment := 234,
    d_moment := z21,
    U_moment := u21,
    f_counts := 242,
    d_counts := z22,
    U_counts := u22,
    f_asked := 250,
    d_asked := z23,
    U_asked := u23,
    f__check := 258,
    d__check := z24,
    U__check := u24,
    f__counts_then := 265,
    d__counts_then := z25,
    U__counts_then := u25,
    f__asked_then := 272,
    d__asked_then := z26,
    U__asked_then := u26,
    f_lets := 280,
    d_lets := z27,
    W_lets := u27,
    f_ask := 288,
    d_ask := z28,
    W_ask := u28,
    f_soonest := 296,
    d_soonest := z29,
    W_soonest := u29,
    f_undo := 303,
    d_undo := z30,
    U_undo := u30,
    f_l_well := 317,
    d_l_well := z31,
    U_l_well := u31,
    g_l_well := (nf 19 (by decide)).1,
    f_l_pick := 324,
    d_l_pick := z32,
    U_l_pick := u32,
    g_l_pick := (nf 20 (by decide)).1,
    f_l_one := 331,
    d_l_one := z33,
    U_l_one := u33,
    g_l_one := (nf 21 (by decide)).1,
    f_l_open := 338,
    d_l_open := z34,
    U_l_open := u34,
    g_l_open := (nf 22 (by decide)).1,
    f_l_may := 343,
    d_l_may := z35,
    U_l_may := u35,
    g_l_may := (nf 23 (by decide)).1,
    f_l_soonest := 350,
    d_l_soonest := z36,
    U_l_soonest := u36,
    g_l_soonest := (nf 24 (by decide)).1,
    f_l_some_limits := 355,
    d_l_some_limits := z37,
    U_l_some_limits := u37,
    g_l_some_limits := (nf 25 (by decide)).1,
    f_l_some_hours := 360,
    d_l_some_hours := z38,
    U_l_some_hours := u38,
    g_l_some_hours := (nf 26 (by decide)).1,
    f_l_asked := 367,
    d_l_asked := z39,
    U_l_asked := u39,
    g_l_asked := (nf 27 (by decide)).1,
    f_l_state_right := 372,
    d_l_state_right := z40,
    U_l_state_right := u40,
    g_l_state_right := (nf 28 (by decide)).1,
    f_l_deed_right := 379,
    d_l_deed_right := z41,
    U_l_deed_right := u41,
    g_l_deed_right := (nf 29 (by decide)).1,
    f_law := 386,
    d_law := z42,
    U_law := u42,
    g_law := (nf 30 (by decide)).1,
    p_rules := 227,
    Pr_rules := (propMonitor Z.pMonitor 0 (by decide)).1,
    p_moment := 235,
    Pr_moment := (propMonitor Z.pMonitor 1 (by decide)).1,
    p_counts := 243,
    Pr_counts := (propMonitor Z.pMonitor 2 (by decide)).1,
    p_asked := 251,
    Pr_asked := (propMonitor Z.pMonitor 3 (by decide)).1,
    C_Monitor := 306,
    cl_Monitor := ⟨r1, r2, r3, r4⟩,
    g_Monitor := mg_of X G r5,
    mk_Monitor := ⟨r6, r7, (methMonitor Z.mMonitor 0 (by decide)).fn, r8⟩,
    n__asked := noAMonitor Z.aMonitor 0 (by decide),
    n__counts := noAMonitor Z.aMonitor 1 (by decide),
    n__earlier := noAMonitor Z.aMonitor 2 (by decide),
    n__moment := noAMonitor Z.aMonitor 3 (by decide),
    n__rules := noAMonitor Z.aMonitor 4 (by decide),
    M__check := methMonitor Z.mMonitor 1 (by decide),
    M__counts_then := methMonitor Z.mMonitor 2 (by decide),
    M__asked_then := methMonitor Z.mMonitor 3 (by decide),
    M_lets := methMonitor Z.mMonitor 4 (by decide),
    M_ask := methMonitor Z.mMonitor 5 (by decide),
    M_soonest := methMonitor Z.mMonitor 6 (by decide),
    M_undo := methMonitor Z.mMonitor 7 (by decide),
    t_MOST_ASKS := w0,
    g_MOST_ASKS := mg_of X G y0,
    t_WIDEST := w1,
    g_WIDEST := mg_of X G y1,
    t_MOST_PAIRS := w2,
    g_MOST_PAIRS := mg_of X G y2,
    t_MOST_MOMENTS := w3,
    g_MOST_MOMENTS := mg_of X G y3,
    abs := nn 0 (by decide),
    all := nn 1 (by decide),
    bool := nn 2 (by decide),
    divmod := nn 3 (by decide),
    int := nn 4 (by decide),
    isinstance := nn 5 (by decide),
    len := nn 6 (by decide),
    list := nn 7 (by decide),
    max := nn 8 (by decide),
    min := nn 9 (by decide),
    property := nn 10 (by decide),
    range := nn 11 (by decide),
    repr := nn 12 (by decide),
    sum := nn 13 (by decide),
    tuple := nn 14 (by decide) }
  refine ⟨T.d_law, [(151, 147), (158, 154)], spLaw T, ?_, ?_, ?_, ?_, ?_, fun base _ _ TB => ok_law T ⟨TB (151, 147) (by simp), TB (158, 154) (by simp)⟩ ⟨mg_of X G Z.b1Barred, Z.b2Barred, Z.b3Barred, Z.b4Barred, Z.b5Barred, Z.b6Barred⟩ (sysM_of Z.s)⟩
  · intro p hp
    simp only [List.mem_cons, List.not_mem_nil, or_false] at hp
    rcases hp with rfl | rfl
    · exact h147
    · exact h154
  · intro p hp
    simp only [List.mem_cons, List.not_mem_nil, or_false] at hp
    rcases hp with rfl | rfl
    · exact Option.isNone_iff_eq_none.mp Z.o10
    · exact Option.isNone_iff_eq_none.mp Z.o11
  · intro p hp
    simp only [List.mem_cons, List.not_mem_nil, or_false] at hp
    rcases hp with rfl | rfl
    · exact hdB_ok X (by decide) Z.t10
    · exact hdB_ok X (by decide) Z.t11
  · obtain ⟨oc, od, kV, doc, pm, an, cdv, ct, osl, e, _⟩ := T.U_law.ex
    rw [e]
    exact fun s u => .of_eq rfl
  · intro H a ns hl hT hS
    refine ⟨a, ns, rfl, hS, hl, fun q hq => ?_, fun _ => rfl⟩
    simp only [tabs, List.mem_cons, List.not_mem_nil, or_false] at hq
    rcases hq with rfl | rfl
    · exact ⟨#[], hT (151, 147) (by simp), by simp [TriplesOk]⟩
    · exact ⟨#[], hT (158, 154) (by simp), by simp [TriplesOk]⟩
end KP

set_option Elab.async false
set_option maxRecDepth 100000
set_option maxHeartbeats 8000000
set_option linter.all false
namespace KP
open PySem PySem.Spec PyProof.Rows L2 Gr PySem.W
/-! the head: beside the written part the table of the modules is looked at, and the tables of the code objects that make generators -/
noncomputable def sysO (P : Params) : Obj := ((boot_heap P).get? sysModules).getD default
noncomputable def withSys (K : Params → Frag) (P : Params) : Frag := (sysModules, sysO P) :: K P
theorem lookup_withSys {K : Params → Frag} {P : Params} (b : Addr) (h : b ≠ sysModules) : (withSys K P).lookup b = (K P).lookup b := by
  unfold withSys
  rw [List.lookup_cons, beq_eq_false_iff_ne.mpr h]
noncomputable def withTabs (K : Params → Frag) (P : Params) : Frag := (147, tabO #[]) :: (154, tabO #[]) :: withSys K P
theorem tabE {K : Params → Frag} {as : List Addr} (e : ∀ P, as = (K P).map (·.1)) (P : Params) : 147 :: 154 :: sysModules :: as = (withTabs K P).map (·.1) := congrArg (fun l => 147 :: 154 :: sysModules :: l) (e P)
theorem tabs_in {K : Params → Frag} {P : Params} {h : Heap} (X : (withTabs K P).In h) (o147 : ((withSys K P).lookup 147).isNone = true) (o154 : ((withSys K P).lookup 154).isNone = true) : (withSys K P).In h ∧ h.get? 147 = some (tabO #[]) ∧ h.get? 154 = some (tabO #[]) := by
  refine ⟨fun b o e => X b o ?_, X 147 _ (by rfl), X 154 _ (by rfl)⟩
  have n147 : b ≠ 147 := fun q => by
    rw [q, Option.isNone_iff_eq_none.mp o147] at e
    cases e
  have n154 : b ≠ 154 := fun q => by
    rw [q, Option.isNone_iff_eq_none.mp o154] at e
    cases e
  unfold withTabs
  rw [List.lookup_cons, beq_eq_false_iff_ne.mpr n147]
  rw [List.lookup_cons, beq_eq_false_iff_ne.mpr n154]
  exact e
end KP
open PySem PySem.W PyProof.Rows
local macro_rules
  | `(tactic| o_headL ($_ $K $as $p)) => `(tactic| o_headL PySem.W.kHook (KP.withTabs $K) (147 :: 154 :: PySem.sysModules :: $as) (KP.tabE (K := $K) (as := $as) $p))
set_option maxHeartbeats 0 in
theorem PySem.Challenge.cw_gentlerounds_k18_whole_monitor_objects_a_holds : PySem.Challenge.rw_gentlerounds_k18_whole_monitor_objects_a.Holds := by
  w_on; o_law; k_headL; (case hw => w_witness2)
  k_fill
  refine Gr.walk_ofQT (l := PySem.Challenge.rw_gentlerounds_k18_whole_monitor_objects_a) (n := 63) (k := 10) (x := "_law_script") (K := KP.withSys _) rfl (by decide) rfl ⟨rfl, by decide, by decide⟩ (fun w h Y => (KP.tabs_in (PySem.W.kIn_of Y) (by kernel_rfl) (by kernel_rfl)).1) ?F
  case F => as_aux_lemma =>
    intro w mg fa h Y KX G hmg
    have Q := KP.tabs_in (PySem.W.kIn_of Y) (by kernel_rfl) (by kernel_rfl)
    refine' KP.all_ok (KP.Facts.mk ?n ?f ?s ?cMonitor ?aMonitor ?mMonitor ?pMonitor ?k0 ?k1 ?k2 ?k3 ?b1Barred ?b2Barred ?b3Barred ?b4Barred ?b5Barred ?b6Barred ?d0 ?d1 ?d2 ?d3 ?d4 ?d5 ?d6 ?d7 ?d8 ?d9 ?d10 ?t10 ?o10 ?d11 ?t11 ?o11 ?d12 ?d13 ?d14 ?d15 ?d16 ?d17 ?d18 ?d19 ?d20 ?d21 ?d22 ?d23 ?d24 ?d25 ?d26 ?d27 ?d28 ?d29 ?d30 ?d31 ?d32 ?d33 ?d34 ?d35 ?d36 ?d37 ?d38 ?d39 ?d40 ?d41 ?d42) KX G hmg Q.2.1 Q.2.2
    (case n => as_aux_lemma => kernel_rfl)
    (case f => as_aux_lemma => kernel_rfl)
    (case s => as_aux_lemma => kernel_rfl)
    (case cMonitor => as_aux_lemma => kernel_rfl)
    (case aMonitor => as_aux_lemma => kernel_rfl)
    (case mMonitor => as_aux_lemma => kernel_rfl)
    (case pMonitor => as_aux_lemma => kernel_rfl)
    (case k0 => as_aux_lemma => kernel_rfl)
    (case k1 => as_aux_lemma => kernel_rfl)
    (case k2 => as_aux_lemma => kernel_rfl)
    (case k3 => as_aux_lemma => kernel_rfl)
    (case b1Barred => as_aux_lemma => kernel_rfl)
    (case b2Barred => as_aux_lemma => kernel_rfl)
    (case b3Barred => as_aux_lemma => kernel_rfl)
    (case b4Barred => as_aux_lemma => kernel_rfl)
    (case b5Barred => as_aux_lemma => kernel_rfl)
    (case b6Barred => as_aux_lemma => kernel_rfl)
    (case d0 => (refine' KP.fun_mkS (f := 21) KP.lookup_withSys (by decide) ?l ?c; (case l => k_is); (case c => kernel_rfl)))
    (case d1 => (refine' KP.fun_mkS (f := 28) KP.lookup_withSys (by decide) ?l ?c; (case l => k_is); (case c => kernel_rfl)))
    (case d2 => (refine' KP.fun_mkS (f := 33) KP.lookup_withSys (by decide) ?l ?c; (case l => k_is); (case c => kernel_rfl)))
    (case d3 => (refine' KP.fun_mkS (f := 40) KP.lookup_withSys (by decide) ?l ?c; (case l => k_is); (case c => kernel_rfl)))
    (case d4 => (refine' KP.fun_mkS (f := 110) KP.lookup_withSys (by decide) ?l ?c; (case l => k_is); (case c => kernel_rfl)))
    (case d5 => (refine' KP.fun_mkS (f := 117) KP.lookup_withSys (by decide) ?l ?c; (case l => k_is); (case c => kernel_rfl)))
    (case d6 => (refine' KP.fun_mkS (f := 124) KP.lookup_withSys (by decide) ?l ?c; (case l => k_is); (case c => kernel_rfl)))
    (case d7 => (refine' KP.fun_mkS (f := 131) KP.lookup_withSys (by decide) ?l ?c; (case l => k_is); (case c => kernel_rfl)))
    (case d8 => (refine' KP.fun_mkS (f := 138) KP.lookup_withSys (by decide) ?l ?c; (case l => k_is); (case c => kernel_rfl)))
    (case d9 => (refine' KP.fun_mkS (f := 145) KP.lookup_withSys (by decide) ?l ?c; (case l => k_is); (case c => kernel_rfl)))
    (case d10 => (refine' KP.fun_mkC (f := 152) KP.lookup_withSys (by decide) ?l ?c; (case l => k_is); (case c => kernel_rfl)))
    (case t10 => as_aux_lemma => kernel_rfl)
    (case o10 => as_aux_lemma => kernel_rfl)
    (case d11 => (refine' KP.fun_mkC (f := 159) KP.lookup_withSys (by decide) ?l ?c; (case l => k_is); (case c => kernel_rfl)))
    (case t11 => as_aux_lemma => kernel_rfl)
    (case o11 => as_aux_lemma => kernel_rfl)
    (case d12 => (refine' KP.fun_mkS (f := 166) KP.lookup_withSys (by decide) ?l ?c; (case l => k_is); (case c => kernel_rfl)))
    (case d13 => (refine' KP.fun_mkS (f := 173) KP.lookup_withSys (by decide) ?l ?c; (case l => k_is); (case c => kernel_rfl)))
    (case d14 => (refine' KP.fun_mkS (f := 180) KP.lookup_withSys (by decide) ?l ?c; (case l => k_is); (case c => kernel_rfl)))
    (case d15 => (refine' KP.fun_mkS (f := 185) KP.lookup_withSys (by decide) ?l ?c; (case l => k_is); (case c => kernel_rfl)))
    (case d16 => (refine' KP.fun_mkS (f := 190) KP.lookup_withSys (by decide) ?l ?c; (case l => k_is); (case c => kernel_rfl)))
    (case d17 => (refine' KP.fun_mkS (f := 197) KP.lookup_withSys (by decide) ?l ?c; (case l => k_is); (case c => kernel_rfl)))
    (case d18 => (refine' KP.fun_mkS (f := 204) KP.lookup_withSys (by decide) ?l ?c; (case l => k_is); (case c => kernel_rfl)))
    (case d19 => (refine' KP.fun_mkK (f := 219) (y := PySem.Str.ofString "moment") (n := 0) KP.lookup_withSys (by decide) ?l ?c ?q; (case l => k_is); (case c => kernel_rfl); (case q => kernel_rfl)))
    (case d20 => (refine' KP.fun_mkS (f := 226) KP.lookup_withSys (by decide) ?l ?c; (case l => k_is); (case c => kernel_rfl)))
    (case d21 => (refine' KP.fun_mkS (f := 234) KP.lookup_withSys (by decide) ?l ?c; (case l => k_is); (case c => kernel_rfl)))
    (case d22 => (refine' KP.fun_mkS (f := 242) KP.lookup_withSys (by decide) ?l ?c; (case l => k_is); (case c => kernel_rfl)))
    (case d23 => (refine' KP.fun_mkS (f := 250) KP.lookup_withSys (by decide) ?l ?c; (case l => k_is); (case c => kernel_rfl)))
    (case d24 => (refine' KP.fun_mkS (f := 258) KP.lookup_withSys (by decide) ?l ?c; (case l => k_is); (case c => kernel_rfl)))
    (case d25 => (refine' KP.fun_mkS (f := 265) KP.lookup_withSys (by decide) ?l ?c; (case l => k_is); (case c => kernel_rfl)))
    (case d26 => (refine' KP.fun_mkS (f := 272) KP.lookup_withSys (by decide) ?l ?c; (case l => k_is); (case c => kernel_rfl)))
    (case d27 => (refine' KP.fun_mkP (f := 280) (m := 1) KP.lookup_withSys (by decide) ?l ?c ?q; (case l => k_is); (case c => kernel_rfl); (case q => kernel_rfl)))
    (case d28 => (refine' KP.fun_mkP (f := 288) (m := 1) KP.lookup_withSys (by decide) ?l ?c ?q; (case l => k_is); (case c => kernel_rfl); (case q => kernel_rfl)))
    (case d29 => (refine' KP.fun_mkP (f := 296) (m := 1) KP.lookup_withSys (by decide) ?l ?c ?q; (case l => k_is); (case c => kernel_rfl); (case q => kernel_rfl)))
    (case d30 => (refine' KP.fun_mkS (f := 303) KP.lookup_withSys (by decide) ?l ?c; (case l => k_is); (case c => kernel_rfl)))
    (case d31 => (refine' KP.fun_mkS (f := 317) KP.lookup_withSys (by decide) ?l ?c; (case l => k_is); (case c => kernel_rfl)))
    (case d32 => (refine' KP.fun_mkS (f := 324) KP.lookup_withSys (by decide) ?l ?c; (case l => k_is); (case c => kernel_rfl)))
    (case d33 => (refine' KP.fun_mkS (f := 331) KP.lookup_withSys (by decide) ?l ?c; (case l => k_is); (case c => kernel_rfl)))
    (case d34 => (refine' KP.fun_mkS (f := 338) KP.lookup_withSys (by decide) ?l ?c; (case l => k_is); (case c => kernel_rfl)))
    (case d35 => (refine' KP.fun_mkS (f := 343) KP.lookup_withSys (by decide) ?l ?c; (case l => k_is); (case c => kernel_rfl)))
    (case d36 => (refine' KP.fun_mkS (f := 350) KP.lookup_withSys (by decide) ?l ?c; (case l => k_is); (case c => kernel_rfl)))
    (case d37 => (refine' KP.fun_mkS (f := 355) KP.lookup_withSys (by decide) ?l ?c; (case l => k_is); (case c => kernel_rfl)))
    (case d38 => (refine' KP.fun_mkS (f := 360) KP.lookup_withSys (by decide) ?l ?c; (case l => k_is); (case c => kernel_rfl)))
    (case d39 => (refine' KP.fun_mkS (f := 367) KP.lookup_withSys (by decide) ?l ?c; (case l => k_is); (case c => kernel_rfl)))
    (case d40 => (refine' KP.fun_mkS (f := 372) KP.lookup_withSys (by decide) ?l ?c; (case l => k_is); (case c => kernel_rfl)))
    (case d41 => (refine' KP.fun_mkS (f := 379) KP.lookup_withSys (by decide) ?l ?c; (case l => k_is); (case c => kernel_rfl)))
    (case d42 => (refine' KP.fun_mkS (f := 386) KP.lookup_withSys (by decide) ?l ?c; (case l => k_is); (case c => kernel_rfl)))

