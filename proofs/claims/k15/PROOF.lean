import PyProof.Rows.All
import Wide.All
import OpenK.AllK
import Wide.FinOn
import KE.DatumIndex
import HandS.ForMost
import HandS.ForExc
import HandS.ExcInit
import HandS.ExcIs
import HandS.ExcField
import HandS.IsInst
import HandS.Wide
import HandS.WideBits
import HandS.AnyAll
import HandS.Walk
import HandS.Conv
import HandS.TupAny
import KE.GoesEnumKw
import KE.DataIsa
import HandS.Comp
import HandS.Zip
import HandS.TupLe
import HandS.ListEq
import HandS.StrMore
import HandS.Dict
import HandS.SortKw
import KE.DataMinMax
import KE.KTupSum
import HandS.TupMul
import HandS.Style
import HandS.SortInts
import KE.SortCalls
import KE.KIndexOf
import KE.KDictDisplayH
import HandS.Defaults
import HandS.ExcOwn
import HandS.ExcValue
import HandS.Iter
import HandS.TryMany
import HandS.Property
import HandS.MakeKwOnly
import PySem.Challenge.RW_gentlerounds_k15_whole_stricter_rules_ex
import HandS.Small
import HandS.Gcd
import HandS.SetFor
import HandS.EndTab
import KE.OsRunLaw
set_option Elab.async false
set_option maxRecDepth 100000
set_option maxHeartbeats 4000000
set_option linter.all false
/-! Ours: defs that are entered where no repr is under way (FnQ), their calls and bodies; repr of data. -/
namespace Gr
open PySem PySem.Spec PyProof.Rows L2

/-- a def's promise, for calls where no repr is under way -/
structure FnQ (P : Program) (w : World) (K : PySem.W.Frag) (mg : Str → Option Value) (base : Heap) (CX : CXT) (k : Nat)
    (f : Addr) (fd : FuncData) (ps : List Str) (sp : Sp) : Prop where
  len : ∀ vs H Q E, sp vs H Q E → vs.length = ps.length
  run : ∀ (A : Around) (outer : List Env) (s : Shared) (H : Hp) (args : Args) (us : List Value) (vs : List V) (Q : VK) (E : XK),
    A.guards = some [] → Room k A → Env0 P w K mg base A outer s H → BindsTo s fd args (ps.zip us) → Vals vs us → sp vs H Q E →
    codeAny (model P w) A (.call (.ref f) args) (CR CX outer P w H s Q E) s

section
variable {P : Program} {w : World} {K : PySem.W.Frag} {mg : Str → Option Value} {base : Heap}

theorem fnQ_fn {CX : CXT} {k : Nat} {f : Addr} {fd : FuncData} {ps : List Str} {sp : Sp}
    (F : FnOk P w K mg base CX k f fd ps sp) : FnQ P w K mg base CX k f fd ps sp :=
  ⟨F.len, fun A outer s H args us vs Q E _ => F.run A outer s H args us vs Q E⟩

/-- such a def by its body -/
theorem fnQ_of {CX : CXT} {k : Nat} {f : Addr} {nm ql : Str} {par : Arguments} {bd : List Stmt} {sc : Scope}
    {dV kV doc pm cdv ct oc : Value} {an od : Option Addr} {osl : Array (Option Value)} {N ps : List Str} {sp : Sp}
    (lk : K.lookup f = some ⟨oc, od, .func (PySem.W.fnOf nm ql par bd sc dV kV doc pm an cdv ct), osl⟩)
    (hcd : PySem.W.codeIn K cdv ql = true) (S : FnScope N ps sc)
    (len : ∀ vs H Q E, sp vs H Q E → vs.length = ps.length)
    (hb : ∀ (A : Around) (outer : List Env) (s : Shared) (H : Hp) (vs : List V) (Q : VK) (E : XK), A.guards = some [] →
      Room k (A.deeper (envOfC ql sc s.heap.objs.size f cdv)) → sp vs H Q E →
      ∃ t, PSs (cxOf CX P w K mg base N ql sc f cdv A outer s H E) bd t ∧
        t { nx := fun _ H' => Q .non H', rt := Q } (start N vs) H) :
    FnQ P w K mg base CX (k + 1) f (PySem.W.fnOf nm ql par bd sc dV kV doc pm an cdv ct) ps sp := by
  refine ⟨len, fun A outer s H args us vs Q E hgu hr e0 hbi r hsp => ?_⟩
  have hlen := len _ _ _ _ hsp
  have keepB : ∀ b o, base.get? b = some o → s.heap.get? b = some o := fun b o e => (e0.bs b o e).1
  have KX : K.In s.heap := e0.mod.kin.keeps keepB
  have lim : s.heap.NoLimit := e0.mod.nolimit.keeps keepB
  refine codeAny_call_function hr.depth (KX _ _ lk) rfl S.co S.gen rfl (PySem.W.codeRec_of KX hcd) (hbi _ _ _ _ ?_)
  refine wpAny_newFunctionEnv_cells S.kind (fun ⟨n, v⟩ hy => ?_) fun env he s1 x => ?_
  · exact (S.par n (List.of_mem_zip hy).1).elim .inl fun q => .inr ⟨q, PySem.W.cellsFrom_some _ _ _ (.inl q)⟩
  subst he
  refine ⟨lim.keeps x.toInCall.keep, codeAny_func ?_⟩
  obtain ⟨t, ht, hq⟩ := hb A outer s H vs Q E hgu (hr.deeper _) hsp
  have I := inv_start (CX := CX) (E := E) S hr.hd e0 hlen r x
  refine wpAny_mono (ht.run [] s1 (start N vs) H _ I hq) (fun fl s' hs => ?_) fun e s' hs => hs
  cases fl with
  | ret u =>
    obtain ⟨v, σ', H', J, rv, q⟩ := hs
    exact ⟨v, H', J.os, J.bare, J.base, J.hok, rv, q⟩
  | next =>
    obtain ⟨σ', H', J, q⟩ := hs
    exact ⟨V.non, H', J.os, J.bare, J.base, J.hok, rfl, q⟩
  | brk =>
    obtain ⟨_, _, _, q⟩ := hs
    exact q.elim
  | cont =>
    obtain ⟨_, _, _, q⟩ := hs
    exact q.elim

/-- the same in the words of Fun -/
theorem funQ {x ql : Str} {st : Stmt} {f : Addr} {fd : FuncData} {N ps : List Str} {k : Nat} {sp : Sp} (F : Fun K x ql st f fd)
    (S : FnScope N ps (defScope st)) (len : ∀ vs H Q E, sp vs H Q E → vs.length = ps.length)
    (hb : ∀ (cdv : Value) (A : Around) (outer : List Env) (s : Shared) (H : Hp) (vs : List V) (Q : VK) (E : XK), A.guards = some [] →
      Room k (A.deeper (envOfC ql (defScope st) s.heap.objs.size f cdv)) → sp vs H Q E →
      ∃ t, PSs (cxOf CX0 P w K mg base N ql (defScope st) f cdv A outer s H E).nox (defBody st) t ∧
        t { nx := fun _ H' => Q .non H', rt := Q } (start N vs) H) : FnQ P w K mg base CX0 (k + 1) f fd ps sp := by
  obtain ⟨oc, od, kV, doc, pm, an, cdv, ct, osl, rfl, lk, hcd⟩ := F.ex
  refine fnQ_of lk hcd S len fun A outer s H vs Q E hgu hr hsp => ?_
  obtain ⟨t, h, q⟩ := hb cdv A outer s H vs Q E hgu hr hsp
  exact ⟨t, h.nox, q⟩
/-- .. where exceptions may run within the body (a try) -/
theorem funQx {x ql : Str} {st : Stmt} {f : Addr} {fd : FuncData} {N ps : List Str} {k : Nat} {sp : Sp} {CX : CXT} (F : Fun K x ql st f fd)
    (S : FnScope N ps (defScope st)) (len : ∀ vs H Q E, sp vs H Q E → vs.length = ps.length)
    (hb : ∀ (cdv : Value) (A : Around) (outer : List Env) (s : Shared) (H : Hp) (vs : List V) (Q : VK) (E : XK), A.guards = some [] →
      Room k (A.deeper (envOfC ql (defScope st) s.heap.objs.size f cdv)) → sp vs H Q E →
      ∃ t, PSs (cxOf CX P w K mg base N ql (defScope st) f cdv A outer s H E) (defBody st) t ∧
        t { nx := fun _ H' => Q .non H', rt := Q } (start N vs) H) : FnQ P w K mg base CX (k + 1) f fd ps sp := by
  obtain ⟨oc, od, kV, doc, pm, an, cdv, ct, osl, rfl, lk, hcd⟩ := F.ex
  exact fnQ_of lk hcd S len fun A outer s H vs Q E hgu hr hsp => hb cdv A outer s H vs Q E hgu hr hsp
end

section
variable {X : Cx} {CX : CXT} {k : Nat} {f : Addr} {fd : FuncData} {ps : List Str} {sp : Sp} {dvs : List V} {ds : List Value} {E : XK} {x : Str} {p pos : Pos} {e : Expr} {es : List Expr} {t : TA}
theorem run_fnQ {pins : List (Addr × Obj)} {σ : L2.St} {H : Hp} {s : Shared} {Q : VK} {us : List Value} {vs : List V} (hgu : X.A.guards = some [])
    (F : FnQ X.prog X.w X.K X.mg X.base CX k f fd ps sp) (hr : Room k X.A) (hb : Binds X.K fd ps ds) (hd : Vals dvs ds) (hx : Passes CX X E)
    (I : Inv X pins σ H s) (r : Vals vs us) (h : sp (vs ++ dvs) H Q E) : wpAny (model X.prog X.w) X.A (call (.ref f) us) (EP X pins σ Q) X.xe s := by
  have r2 := Vals.append r hd
  have hl : (us ++ ds).length = ps.length := (r2.length).symm.trans (F.len _ _ _ _ h)
  refine wpAny_call (codeAny_mono (F.run X.A X.stack s H ⟨us, []⟩ (us ++ ds) (vs ++ dvs) Q E hgu hr I.env0 (hb s us I.kIn hl) r2 h) fun rr s' hq => ?_)
  match rr, hq with
  | .error e, hq => exact hx pins σ H s e s' I hq
  | .ok (.ret u), hq => exact I.after hq
/-- f(e, ..) -/
theorem pe_callQ (hgu : X.A.guards = some []) (F : FnQ X.prog X.w X.K X.mg X.base CX k f fd ps sp) (hr : Room k X.A) (hg : Gl X x) (hm : X.mg x = some (.ref f))
    (hk : PySem.W.keepIn X.K (.ref f) = true) (hb : Binds X.K fd ps ds) (hd : Vals dvs ds) (hx : Passes CX X E) (ha : PA X (e :: es) t)
    (hdb : (x == ("__debug__" : Str)) = false := by decide) (he : starEach (e :: es) X.env = (false, eval e X.env) :: starEach es X.env := by rfl)
    (hpl : (backTo pos (starEach es X.env)).any (·.1) = false := by rfl) : PE X (.Call (.Name x p) (e :: es) [] pos) (tCall sp dvs E t) :=
  ⟨fun pins s σ H Q I h => wpAny_Call_Name_kw (ld_glob I hg hm (PySem.W.callWith_K (h₀ := X.base) I.ok.mod.kin hk
    (thn (ha.run pos pins s σ H _ I h) fun us s1 ⟨vs, H1, I1, r, q⟩ => ⟨I1.kIn, run_fnQ hgu F hr hb hd hx I1 r q⟩) he hpl) hdb)⟩
end
end Gr

set_option Elab.async false
set_option maxRecDepth 100000
set_option maxHeartbeats 4000000
set_option linter.all false
/-! Ours: repr of data (lists, tuples, dicts of int and text keys, nested), where no repr is under way. -/
namespace Gr
open PySem PySem.Spec PyProof.Rows L2

mutual
/-- the value v holds the data d -/
inductive Dq (K : PySem.W.Frag) (H : Hp) : V → PyData → Prop
  | non : Dq K H .non .none
  | bl (b : Bool) : Dq K H (.bl b) (.bool b)
  | int (i : Int) : Dq K H (.int i) (.int i)
  | str (x : Str) : Dq K H (.str x) (.str x)
  | lst {a : Addr} {xs : List V} {ds : List PyData} : SqL K H a xs → DqAll K H xs ds → Dq K H (.ref a) (.list ds)
  | tup {a : Addr} {xs : List V} {ds : List PyData} : SqT K H a xs → DqAll K H xs ds → Dq K H (.ref a) (.tuple ds)
  | dic {a : Addr} {kvs : List (Key × V)} {ds : List (PyData × PyData)} : H a = some (.dK kvs) →
      DqAll K H (kvs.map fun p => kV p.1) (ds.map (·.1)) → DqAll K H (kvs.map (·.2)) (ds.map (·.2)) → Dq K H (.ref a) (.dict ds)
inductive DqAll (K : PySem.W.Frag) (H : Hp) : List V → List PyData → Prop
  | nil : DqAll K H [] []
  | cons {v : V} {vs : List V} {d : PyData} {ds : List PyData} : Dq K H v d → DqAll K H vs ds → DqAll K H (v :: vs) (d :: ds)
end

theorem SqT_same {K : PySem.W.Frag} {H H' : Hp} {a : Addr} {xs : List V} (e : Same H H') (h : SqT K H a xs) : SqT K H' a xs := by
  rcases h with (h | ⟨o, h⟩) | h
  · exact .inl (.inl (e _ _ h))
  · exact .inl (.inr ⟨o, e _ _ h⟩)
  · exact .inr h
/-- what more is tracked changes no data -/
theorem Dq.same {K : PySem.W.Frag} {H H' : Hp} {v : V} {d : PyData} (e : Same H H') (h : Dq K H v d) : Dq K H' v d :=
  Dq.rec (motive_1 := fun v d _ => Dq K H' v d) (motive_2 := fun vs ds _ => DqAll K H' vs ds)
    .non .bl .int .str (fun hs _ ih => .lst (e.seq hs) ih) (fun hs _ ih => .tup (SqT_same e hs) ih)
    (fun hd _ _ i1 i2 => .dic (e _ _ hd) i1 i2) .nil (fun _ _ i1 i2 => .cons i1 i2) h
theorem DqAll.rep {K : PySem.W.Frag} {H : Hp} {v : V} {d : PyData} (h : Dq K H v d) : ∀ n : Nat, DqAll K H (List.replicate n v) (List.replicate n d)
  | 0 => .nil
  | n + 1 => .cons h (DqAll.rep h n)

theorem keys_of_pairs {P : Program} {w : World} : ∀ {es : List DictEntry} {kvs : List (Key × Value)}, Pairs (mixKind P w) es kvs → Vals (kvs.map fun p => kV p.1) (es.map (·.key))
  | _, _, .nil => .nil
  | _, _, .cons h _ t => by
    refine .cons ?_ (keys_of_pairs t)
    rcases keyIs_shape h with ⟨i, t, e1, e2⟩ | ⟨x, t, e1, e2⟩
    · dsimp only
      rw [e1, e2]
      exact ⟨t, rfl⟩
    · dsimp only
      rw [e1, e2]
      exact ⟨t, rfl⟩
theorem vals_of_pairs {P : Program} {w : World} : ∀ {es : List DictEntry} {kvs : List (Key × Value)}, Pairs (mixKind P w) es kvs → es.map (·.val) = kvs.map (·.2)
  | _, _, .nil => rfl
  | _, _, .cons _ h t => by rw [List.map_cons, List.map_cons, h, vals_of_pairs t]
theorem kv_keys : ∀ {kvs : List (Key × V)} {vs : List (Key × Value)}, KV kvs vs → kvs.map (fun p => kV p.1) = vs.map (fun p => kV p.1)
  | _, _, .nil => rfl
  | _, _, .cons h t => by rw [List.map_cons, List.map_cons, h.1, kv_keys t]
theorem kv_vals : ∀ {kvs : List (Key × V)} {vs : List (Key × Value)}, KV kvs vs → Vals (kvs.map (·.2)) (vs.map (·.2))
  | _, _, .nil => .nil
  | _, _, .cons h t => .cons h.2 (kv_vals t)

/-- sys.modules is a dict of the written part -/
def SysM (K : PySem.W.Frag) : Prop := ∃ o es n, K.lookup sysModules = some o ∧ o.data = .dict es n

section
variable {X : Cx} {pins : List (Addr × Obj)} {σ : L2.St} {H : Hp} {s : Shared}
theorem Dq.reads (I : Inv X pins σ H s) {v : V} {d : PyData} (h : Dq X.K H v d) : ∀ u : Value, RelV v u → ∃ as, Reads s.heap u d as ∧ (SysM X.K → sysModules ∉ as) := by
  refine Dq.rec (motive_1 := fun v d _ => ∀ u : Value, RelV v u → ∃ as, Reads s.heap u d as ∧ (SysM X.K → sysModules ∉ as))
    (motive_2 := fun vs ds _ => ∀ us : List Value, Vals vs us → ∃ as, ReadsAll s.heap us ds as ∧ (SysM X.K → sysModules ∉ as)) ?_ ?_ ?_ ?_ ?_ ?_ ?_ ?_ ?_ h
  · intro u r
    cases r
    exact ⟨_, .none, fun _ z => nomatch z⟩
  · intro b u r
    cases r
    exact ⟨_, .bool b, fun _ z => nomatch z⟩
  · intro i u r
    obtain ⟨t, rfl⟩ := r
    exact ⟨_, .int i t, fun _ z => nomatch z⟩
  · intro x u r
    obtain ⟨t, rfl⟩ := r
    exact ⟨_, .str x t, fun _ z => nomatch z⟩
  · intro a xs ds hs _ ih u r
    cases r
    obtain ⟨its, rv, ⟨o, n, ho, hc, _, hd⟩, _⟩ := I.list hs
    obtain ⟨as, hr, hm⟩ := ih its rv
    refine ⟨_, .list ho hc hd hr, fun M z => ?_⟩
    rcases List.mem_cons.mp z with z | z
    · obtain ⟨o', es, n', e1, e2⟩ := id M
      have e3 := I.kIn _ _ e1
      rw [z, ho] at e3
      cases e3
      rw [hd] at e2
      cases e2
    · exact hm M z
  · intro a xs ds hs _ ih u r
    cases r
    obtain ⟨its, rv, ⟨o, ho, hc, n, hd⟩, _⟩ := I.tuple hs
    obtain ⟨as, hr, hm⟩ := ih its rv
    exact ⟨_, .tuple ho hc hd hr, hm⟩
  · intro a kvs ds hd _ _ i1 i2 u r
    cases r
    obtain ⟨_, hsm, vs, kv, o, es, ep, ho, hx, hdt, _, hp, _⟩ := (show ObjOk X.prog X.w H s.heap a (.dK kvs) from I.hok a _ hd)
    obtain ⟨as, r1, m1⟩ := i1 (es.toList.map (·.key)) (by rw [kv_keys kv]; exact keys_of_pairs hp)
    obtain ⟨bs, r2, m2⟩ := i2 (es.toList.map (·.val)) (by rw [vals_of_pairs hp]; exact kv_vals kv)
    refine ⟨_, .dict ho hx.1 hdt r1 r2, fun M z => ?_⟩
    rcases List.mem_append.mp z with z | z
    · rcases List.mem_cons.mp z with z | z
      · rw [← z] at hsm
        exact absurd hsm (by decide)
      · exact m1 M z
    · exact m2 M z
  · intro us r
    cases r
    exact ⟨_, .nil, fun _ z => nomatch z⟩
  · intro v vs d ds _ _ i1 i2 us r
    cases r with
    | cons ra rr =>
      obtain ⟨as, q1, m1⟩ := i1 _ ra
      obtain ⟨bs, q2, m2⟩ := i2 _ rr
      refine ⟨_, .cons q1 q2, fun M z => ?_⟩
      rcases List.mem_append.mp z with z | z
      · exact m1 M z
      · exact m2 M z
end

/-- repr(x), x data -/
def rRepr (K : PySem.W.Frag) : List V → Hp → VK → Prop := fun xs H Q => ∃ v d, xs = [v] ∧ Dq K H v d ∧ d.showable = true ∧ d.depth ≤ 60 ∧ d.shown.length ≤ sizeLine ∧ Q (.str d.shown) H

theorem repr_ref_only {h : Heap} {d : PyData} {a : Addr} {as : List Addr} (r : Reads h (.ref a) d as) : True := trivial
section
variable {X : Cx}
theorem call_reprD (hgu : X.A.guards = some []) (hu : X.A.units + 64 < cLine) (hM : SysM X.K) : CallR X (.builtin "repr") (rRepr X.K) := by
  intro pins s σ H xs us Q I r h
  obtain ⟨v, d, rfl, hd, hs, hdp, hz, q⟩ := h
  obtain ⟨u, rfl, ru⟩ := vals1 r
  obtain ⟨as, hr, hm⟩ := hd.reads I u ru
  have fin : ∀ h' tk t, (∀ b o, s.heap.get? b = some o → h'.get? b = some o) → EP X pins σ Q (.str d.shown t) { s with heap := h', toks := tk } :=
    fun h' tk t hk => ⟨.str d.shown, H, I.kept hk, ⟨_, rfl⟩, q⟩
  cases v with
  | ref a =>
    cases (show u = Value.ref a from ru)
    exact repr_of_reads' hr hs (fun _ => hm hM) hgu (by omega) (fun _ _ e => e) (fun h' t tk hk => fin h' tk t hk) hz
  | non =>
    cases hd
    cases (show u = Value.none from ru)
    exact PySem.P.repr_of_none (fin s.heap _ _ fun _ _ e => e)
  | bl b =>
    cases hd
    cases (show u = Value.bool b from ru)
    exact PySem.P.repr_of_bool (fin s.heap _ _ fun _ _ e => e)
  | int i =>
    cases hd
    obtain ⟨t, e⟩ := (show ∃ t, u = Value.int i t from ru)
    subst e
    exact PySem.P.repr_of_int (by simpa [PyData.showable] using hs) (fin s.heap _ _ fun _ _ e => e)
  | str x =>
    cases hd
    obtain ⟨t, e⟩ := (show ∃ t, u = Value.str x t from ru)
    subst e
    exact PySem.P.repr_of_str (fin s.heap _ _ fun _ _ e => e) (by simpa [PyData.shown] using hz)
  | byt b => cases hd
  | flt b => cases hd
  | ty n => cases hd
end
end Gr

set_option Elab.async false
set_option maxRecDepth 100000
set_option maxHeartbeats 4000000
set_option linter.all false
/-! Ours: all(..) of a generator expression over a text's signs whose element may read names of the module. -/
namespace Gr
open PySem PySem.Spec PyProof.Rows L2 GxR

/-- the element tells pb of the sign; the running def's module is at hand -/
def EltG (X : Cx) (scope : Scope) (x : Str) (elt : Expr) (pb : Nat → Bool) : Prop :=
  ∀ (en : Env) (B : Around) (E' : Value → Shared → Prop) (c : Nat) (t : Tok) (z : Shared) (m : Str → Option Value),
    en.scope = scope → en.globals = X.env.globals → (∀ b o, X.base.get? b = some o → z.heap.get? b = some o) → X.base.Ns mainGlobals X.mg → X.env.globals = mainGlobals → z.heap.Ns en.locals m → m x = some (.str ⟨#[c]⟩ t) →
    wpAny (model X.prog X.w) B (eval elt en) (fun y z' => y = .bool (pb c) ∧ Keeps z z') E' z

section
variable {X : Cx} {pins : List (Addr × Obj)} {σ : L2.St} {H : Hp} {s : Shared}
/-- the code of a generator expression, and the built-ins it sees, behind an iterator that was just made -/
theorem code_then {c P : Addr} {ps : Array Value} {o : Obj} {scope : Scope} {q : Str} {gpos : Pos} {E : Value → Shared → Prop} {R : Value → Addr → Shared → Prop} (I : Inv X pins σ H s)
    (TB : TabB X.base X.mg c P) (hcode : X.env.code = .ref c) (hP : H P = some (.tbl ps)) (ht : TriplesOk ps.toList)
    (h : ∀ (cv : Value) (k : Heap) (tk : Nat) (more : Array Value), (∀ b u, b ≠ P → (s.heap.push o).get? b = some u → k.get? b = some u) → s.heap.objs.size < k.objs.size → k.get? P = some { cls := .none, data := .fields (ps ++ more) } → TriplesOk (ps ++ more).toList → k.NoLimit →
      R cv builtinsNs { s with heap := k, toks := tk }) :
    wpAny (model X.prog X.w) X.A (genexprCode X.env gpos q scope) (fun cv z => wpAny (model X.prog X.w) X.A (builtinsFor X.env.globals X.env.builtins) (fun bi z' => R cv bi z') E z) E { s with heap := s.heap.push o } := by
  have p0 : s.heap.get? P = some { cls := .none, data := .fields ps } := I.hok P _ hP
  have p1 : (s.heap.push o).get? P = some { cls := .none, data := .fields ps } := Heap.get?_push_of_some _ p0
  have cd : PySem.W.CodeHd (s.heap.push o) c P := TB.code.keeps fun b u e => Heap.get?_push_of_some _ (I.bk b u e)
  have lim : (s.heap.push o).NoLimit := I.nolimit.push o
  have nP : cStatics ≠ P := by
    obtain ⟨_, ⟨o', es, ep, ho, hd, _⟩, _⟩ := I.nolimit
    intro e
    rw [e, p0] at ho
    cases ho
    cases hd
  have last : ∀ (cv : Value) (k : Heap) (tk : Nat) (more : Array Value), Heap.ExtBut P (s.heap.push o) k → (s.heap.push o).objs.size ≤ k.objs.size → k.get? P = some { cls := .none, data := .fields (ps ++ more) } → TriplesOk (ps ++ more).toList →
      wpAny (model X.prog X.w) X.A (builtinsFor X.env.globals X.env.builtins) (fun bi z' => R cv bi z') E { s with heap := k, toks := tk } := by
    intro cv k tk more hx hs hp ht'
    obtain ⟨bm, ob, e1, e2, e3, e4, e5, e6, e7, e8⟩ := TB.bm
    have up : ∀ b u, b ≠ P → s.heap.get? b = some u → k.get? b = some u := fun b u n e => hx b u n (Heap.get?_push_of_some _ e)
    have g : k.Ns X.env.globals X.mg := by
      rw [I.ok.glob]
      exact ((I.mod.glob.keeps I.bk).push o).extBut hx TB.gP
    refine wpAny_builtinsFor g e1 e2 (up _ _ e4 (I.bk _ _ e5)) e6 e7 e8 (h cv k tk more hx ?_ hp ht' (lim.extBut hx nP))
    rw [Heap.size_push] at hs
    exact hs
  cases hf : codeAmong gpos ps.toList with
  | none =>
    refine wpAny_genexprCodeX hcode (cd.code p1 ht) (cd.tab p1) hf fun c' k tk hx hge hlt hco _ htab _ => ?_
    obtain ⟨_, _, _, _, _, _, _, _, _, _, _, _, _, _, _, _, _, _, _, htr, _⟩ := hco
    exact last _ k tk _ hx (Nat.le_of_lt (Nat.lt_of_le_of_lt hge hlt)) htab.2 htr
  | some cv =>
    refine wpAny_genexprCode_hit hcode (cd.code p1 ht) hf ?_
    have e : ps ++ #[] = ps := by simp
    exact last cv (s.heap.push o) s.toks #[] (fun b u _ e => e) (Nat.le_refl _) (by rw [e]; exact p1) (by rw [e]; exact ht)

theorem genG {c P : Addr} {elt iter : Expr} {x : Str} {px gpos : Pos} {scope : Scope} {pb : Nat → Bool} {te : TE} {k : Nat} {W : Value → Shared → Prop} {R : Str → Hp → Prop}
    (hr : Room k X.A) (TB : TabB X.base X.mg c P) (hcode : X.env.code = .ref c) (S : GenS X.env scope x) (hi : PE X iter te) (hel : EltG X scope x elt pb)
    (hs : ∀ v, genFold iter X.env v = pure v) (I : Inv X pins σ H s) (h : te σ H fun v H1 => ∃ a : Str, v = .str a ∧ TabG H1 P ∧ R a H1)
    (hQ : ∀ a H1 g z, R a H1 → Ready X pins σ H1 P a pb g z → W (.ref g) z) :
    wpAny (model X.prog X.w) X.A (eval (.GeneratorExp elt [⟨.Name x px, iter, [], 0⟩] scope gpos) X.env) W X.xe s := by
  have dr : X.A.depth < recursionLimit := Nat.lt_of_le_of_lt (by omega) hr.dp
  refine wpAny_GeneratorExp_walksQ hr.hd S.co (closure_ok S.free) S.cell S.dot S.loc S.kind dr (thn (hi.run pins s σ H _ I h) ?_) hs
  rintro xv s1 ⟨v, H1, I1, r1, a, rfl, ⟨ps, hP, ht⟩, q1⟩
  obtain ⟨t, rfl⟩ := id r1
  refine wpAny_pyIter_str fun o St Wk st0 => ⟨I1.nolimit.push o, code_then I1 TB hcode hP ht fun cv h3 tk more up lt hp ht' lim => ?_⟩
  have p0 : s1.heap.get? P = some { cls := .none, data := .fields ps } := I1.hok P _ hP
  have pl : P < s1.heap.objs.size := Heap.lt_size p0
  have at1 : ∀ b, b ∈ [s1.heap.objs.size] → b = s1.heap.objs.size := fun b hb => List.mem_singleton.mp hb
  have ne1 : s1.heap.objs.size ≠ P := fun e => Nat.lt_irrefl _ (e ▸ pl)
  have cl : cStatics < s1.heap.objs.size := let ⟨_, n, _⟩ := I1.nolimit; n.lt
  have up0 : ∀ b u, b ≠ P → s1.heap.get? b = some u → h3.get? b = some u := fun b u n e => up b u n (Heap.get?_push_of_some _ e)
  refine ⟨s1.heap.objs.size, [s1.heap.objs.size], [s1.heap.objs.size], a.cps.size, SignAt a, St, fun _ => true, fun i y => ∃ d, a.cps[i]? = some d ∧ y = .bool (pb d), rfl, Wk, ?_, fun b hb => ?_, lim, fun z => ?_, fun href hh => ?_, ?_⟩
  · refine (Wk X.A hr.hd).frame _ _ _ st0 fun b hb u e => up b u ?_ e
    rw [at1 b hb]
    exact ne1
  · rw [at1 b hb]
    exact lt
  · rw [at1 _ z] at cl
    exact Nat.lt_irrefl _ cl
  · constructor
    · intro B E' i v z m _ _ _ _ _
      rw [List.forIn_nil]
      exact wpAny_pure ⟨rfl, keeps_refl _⟩
    · intro B E' i v z m _ hv _ hn hm hk
      obtain ⟨d, u, hd, rfl⟩ := hv
      refine wpAny_mono (hel _ B E' d u z m rfl rfl (fun b w' e => ?_) I1.mod.glob I1.ok.glob hn hm) (fun y z' r => ⟨⟨d, hd, r.1⟩, r.2⟩) fun _ _ e => e
      obtain ⟨e1, e2⟩ := I1.bs b w' e
      have nb : b ≠ P := fun z => by
        rw [z, hP] at e2
        cases e2
      have lb : b < s1.heap.objs.size := Heap.lt_size e1
      refine hk b (List.mem_range.mpr (Nat.lt_trans lb lt)) (fun z => ?_) _ (hh _ _ (up0 b w' nb e1))
      rw [at1 b z] at lb
      exact Nat.lt_irrefl _ lb
  · intro g h5 tk5 gs gb ag sz5 k5 W5 hat
    simp only [GxR.passing_true, List.length_range] at W5
    refine hQ a H1 g _ q1 ⟨_, _, _, _, _, W5.in4_1, hat, ?_, fun s' mv => ?_⟩
    · rintro j y z Q' E' ⟨i, hij, d, hd, rfl⟩ q
      obtain ⟨hj, ej⟩ := List.getElem?_eq_some_iff.mp hij
      rw [List.getElem_range] at ej
      cases ej
      have e : a.cps.toList[j]? = some d := (Array.getElem?_toList (xs := a.cps) (i := j)).trans hd
      have q' : Q' (trF pb a.cps.toList j) z := q
      rw [trF_some e] at q'
      exact wpAny_truthy_bool q'
    · have nw : ∀ b u, s1.heap.get? b = some u → b ∉ h3.objs.size :: [s1.heap.objs.size] := fun b u e hb => by
        have l := Heap.lt_size e
        have l2 : s1.heap.objs.size < h3.objs.size := lt
        rcases List.mem_cons.mp hb with z | z
        · rw [z] at l
          exact Nat.lt_asymm l l2
        · rw [at1 b z] at l
          exact Nat.lt_irrefl _ l
      have J := inv_tab (more := more) (h' := s'.heap) (g' := s'.gens) (d' := s'.drawn) (t' := s'.toks) I1 hP (fun b u n e => mv.heap b u (nw b u e) (k5 b u (up0 b u n e))) (mv.heap P _ (nw P _ p0) (k5 P _ hp)) (AllBare.movedS (I1.bare.push gb) mv)
      have es : ({ s1 with heap := s'.heap, gens := s'.gens, drawn := s'.drawn, toks := s'.toks } : Shared) = s' := by
        obtain ⟨_, _, _, _, _⟩ := s'
        have := mv.os
        dsimp only at this
        rw [this]
      rw [es] at J
      exact ⟨upd H1 P (.tbl (ps ++ more)), ⟨⟨_, upd_same, ht'⟩, fun b hb => upd_ne hb⟩, J⟩

/-- all(elt for x in e), e a text -/
theorem pe_allG {c P : Addr} {elt iter : Expr} {x : Str} {px p pos gpos : Pos} {scope : Scope} {pb : Nat → Bool} {te : TE} {k : Nat}
    (hr : Room k X.A) (hg : Gl X "all") (hm : X.mg "all" = none) (TB : TabB X.base X.mg c P) (hcode : X.env.code = .ref c) (S : GenS X.env scope x) (hi : PE X iter te) (hel : EltG X scope x elt pb)
    (hs : ∀ v, genFold iter X.env v = pure v)
    (he : starEach [.GeneratorExp elt [⟨.Name x px, iter, [], 0⟩] scope gpos] X.env = (false, eval (.GeneratorExp elt [⟨.Name x px, iter, [], 0⟩] scope gpos) X.env) :: starEach [] X.env := by rfl) :
    PE X (.Call (.Name "all" p) [.GeneratorExp elt [⟨.Name x px, iter, [], 0⟩] scope gpos] [] pos) (tAllS P pb te) := by
  refine ⟨fun pins s σ H Q I h => wpAny_Call_Name_kw (ld_blt I hg hm boot_all (PyProof.Rows.callWith_builtin1 ?_ he (by rfl)))⟩
  rw [he]
  show wpAny _ _ (spliced ((false, eval (.GeneratorExp elt [⟨.Name x px, iter, [], 0⟩] scope gpos) X.env) :: backTo pos (starEach [] X.env))) _ _ s
  refine Calls.spliced_cons (genG (R := fun a H1 => ∀ H2, Tabbed P H1 H2 → Q (.bl (a.cps.toList.all pb)) H2) hr TB hcode S hi hel hs I h ?_)
  rintro a H1 g z hR ⟨fp, wr, G, F, St, W, hst, htr, hI⟩
  refine Calls.spliced_nil (call_all_walkS (W.self 0 _ _ _ hst ⟨g, fp, wr, G, _, F, St, _, rfl, W, hst, htr, fun s' mv => ?_⟩))
  obtain ⟨H2, hT, J⟩ := hI s' mv
  rw [all_signs a pb]
  exact ⟨.bl _, H2, J, rfl, hR H2 hT⟩
end

/-- x == 'k' -/
theorem eg_eq {X : Cx} {scope : Scope} {x k : Str} {j : Nat} {p1 p2 p3 : Pos} (hk : scope.kind = .function) (hl : scope.names.lookup x = some .local) (hd : (x == ("__debug__" : Str)) = false := by decide) :
    EltG X scope x (.Compare (.Name x p1) [.Eq] [.Constant (.str k) j p2] p3) (fun c => [c] == k.cps.toList) :=
  fun en B E' c t z m hs _ _ _ _ hn hm => elt_eq (prog := X.prog) (w := X.w) (scope := scope) hk hl hd en B E' c t z m hs hn hm
/-- x in G, G a text of the module -/
theorem eg_in {X : Cx} {scope : Scope} {x G : Str} {y : Str} {t0 : Tok} {p1 p2 p3 : Pos} (hk : scope.kind = .function) (hl : scope.names.lookup x = some .local) (hG : scope.names.lookup G = some .globalImplicit) (hmG : X.mg G = some (.str y t0))
    (hd : (x == ("__debug__" : Str)) = false := by decide) (hd2 : (G == ("__debug__" : Str)) = false := by decide) :
    EltG X scope x (.Compare (.Name x p1) [.In] [.Name G p2] p3) (fun c => decide (c ∈ y.cps.toList)) := by
  intro en B E' c t z m hs hg hb hns hgl hn hm
  have hkind : en.scope.kind = .function := by rw [hs]; exact hk
  have hkx : en.scope.names.lookup x = some .local := by rw [hs]; exact hl
  have hkG : en.kindOf G = some .globalImplicit := by
    show en.scope.names.lookup G = _
    rw [hs]
    exact hG
  refine wpAny_Compare1 (wpAny_Name (wpAny_loadName_local hkind hkx hn hm ?_) hd) (by rfl)
  refine Calls.Name_function_global hkind hkG (Calls.loadGlobal_global (by rw [hg, hgl]; exact hns.keeps hb) hmG ?_) hd2
  refine PyProof.Rows.in_str ⟨?_, keeps_refl _⟩
  rw [PySem.StrLaws.found_one]
/-- a or b -/
theorem eg_or {X : Cx} {scope : Scope} {x : Str} {a b : Expr} {pa pb : Nat → Bool} {pos : Pos} (ha : EltG X scope x a pa) (hb : EltG X scope x b pb) : EltG X scope x (.BoolOp .Or [a, b] pos) (fun c => pa c || pb c) := by
  intro en B E' c t z m hs hg hbs hns hgl hn hm
  refine BoolOp_or (wpAny_mono (ha en B _ c t z m hs hg hbs hns hgl hn hm) (fun y z' ⟨e, ⟨h', tk, e2, kp⟩⟩ => ?_) fun _ _ e => e)
  subst e
  subst e2
  refine wpAny_truthy_bool ?_
  cases hc : pa c with
  | true => exact ⟨by show _ = Value.bool (pa c || pb c); rw [hc]; rfl, h', tk, rfl, kp⟩
  | false =>
    refine BoolOp_one (wpAny_mono (hb en B E' c t _ m hs hg (fun b o e => kp b o (hbs b o e)) hns hgl (hn.keeps kp) hm) (fun y z' ⟨e, ⟨h2, tk2, e2, kp2⟩⟩ => ?_) fun _ _ e => e)
    subst e
    subst e2
    exact ⟨by show _ = Value.bool (pa c || pb c); rw [hc]; rfl, h2, tk2, rfl, fun b o q => kp2 b o (kp b o q)⟩
end Gr

set_option Elab.async false
set_option maxRecDepth 100000
set_option maxHeartbeats 4000000
set_option linter.all false
/-! Ours: enumerate over a text, with or without a start told by its name; o.f |= e; a def called with keywords alone. -/
namespace Gr
open PySem PySem.Spec PyProof.Rows L2

/-- pairs (c + i, the sign at i) of a text, each a new one -/
def Itx (x : Str) (c : Int) : It := ⟨fun i _ => i < x.cps.size, fun i H v H' => ∃ T d, v = .ref T ∧ H T = none ∧ H' = upd H T (.tup [.int (c + (i : Nat)), .str ⟨#[d]⟩]) ∧ x.cps[i]? = some d, fun i _ => x.cps.size = i⟩
def YTx (x : Str) (c : Int) : Nat → Hp → V → Hp → Prop := fun i H v H' => ∃ T d, v = .ref T ∧ H T = none ∧ H' = upd H T (.tup [.int (c + (i : Nat)), .str ⟨#[d]⟩]) ∧ x.cps[i]? = some d
theorem walk_tx {x : Str} {c : Int} : Walk (Itx x c) x.cps.size (fun _ => True) (YTx x c) :=
  ⟨fun _ _ hi _ => hi, fun _ _ => rfl, fun _ _ _ _ _ _ y => y⟩
theorem turn_tx {P : Program} {w : World} {K : PySem.W.Frag} {elts : List Expr} {kk : Nat} {tpos : Pos} {e it : Addr} {x : Str} {t : Tok} {c : Int} :
    Turn P w K (.Tuple elts kk tpos) (Itx x c) [e, it] e (fun i h => (∃ old, IsEnum h e it (c + (i : Int)) old) ∧ h.IsStrIter it (strIterType x) x t i ∧ e ≠ it) where
  mem := List.mem_cons_self
  obj := by
    rintro i h ⟨⟨old, he⟩, ⟨o, ho, hc, hd⟩, _⟩ b hb
    rcases List.mem_cons.mp hb with z | z
    · rw [z]
      exact ⟨_, he, fun v q => nomatch q⟩
    · rw [List.mem_singleton.mp z]
      exact ⟨o, ho, fun v q => by rw [hd] at q; cases q⟩
  keep := by
    rintro i h h' ⟨⟨old, he⟩, ⟨o, ho, r⟩, ne⟩ k
    exact ⟨⟨old, k e (List.mem_cons_self) _ he⟩, ⟨o, k it (by simp) _ ho, r⟩, ne⟩
  item := by
    intro X hP hw hK hc i pins s σ H E I hf st hg
    subst hP hw hK
    obtain ⟨⟨old, he⟩, hit, ne⟩ := st
    have el : e < s.heap.objs.size := Heap.lt_size he
    have il : it < s.heap.objs.size := let ⟨_, q, _⟩ := hit; Heap.lt_size q
    refine wpAny_pyNext_enum_itemC (Draws.text (A := X.A.in1) (I.ok.hd hc) it x t) he hit hg ne (fun z => ne (List.mem_singleton.mp z)) fun u h' tk hu ho hit' hT hz hk => ?_
    obtain ⟨d, tu, hd, rfl⟩ := hu
    refine ⟨_, rfl, wpAny_letOwnedTupleGo_enum (s := { s with heap := h', toks := tk + 1 }) ho fun h'' he' sb => ?_⟩
    have nT : s.heap.objs.size ≠ e := Nat.ne_of_gt el
    have hT2 : h''.get? s.heap.objs.size = some { cls := .type "tuple", data := .seq #[.int (c + (i : Int)) tk, .str ⟨#[d]⟩ tu] } := (sb.2 _ nT).trans hT
    have new : ObjOk X.prog X.w (upd H s.heap.objs.size (.tup [.int (c + (i : Nat)), .str ⟨#[d]⟩])) h'' s.heap.objs.size (.tup [.int (c + (i : Nat)), .str ⟨#[d]⟩]) :=
      ⟨by show 2 ≤ sizeLine; decide, _, .cons ⟨_, rfl⟩ (.cons ⟨_, rfl⟩ .nil), ⟨_, hT2, rfl, _, rfl⟩⟩
    have I1 : Inv X pins σ (upd H s.heap.objs.size (.tup [.int (c + (i : Nat)), .str ⟨#[d]⟩])) { s with heap := h'', toks := tk + 1 } := by
      refine I.turnedNew (ch := [e, it]) (fun b ob hb q => ?_) hf (Nat.le_refl _) new
      have n1 : b ≠ e := fun z => hb (z ▸ List.mem_cons_self)
      have n2 : b ≠ it := fun z => hb (by rw [z]; exact List.mem_cons_of_mem _ List.mem_cons_self)
      exact (sb.2 b n1).trans (hk b ob n1 n2 q)
    refine ⟨.ref s.heap.objs.size, _, I1, rfl, ⟨_, d, rfl, I.hok.fresh (Nat.le_refl _), rfl, hd⟩, ⟨⟨.str ⟨#[d]⟩ tu, ?_⟩, ?_, ne⟩, fun b hb => ?_⟩
    · have q : c + ((i + 1 : Nat) : Int) = c + (i : Int) + 1 := by omega
      rw [q]
      exact he'
    · obtain ⟨o, q, r⟩ := hit'
      exact ⟨o, (sb.2 it (Ne.symm ne)).trans q, r⟩
    · have lb : b < s.heap.objs.size := by
        rcases List.mem_cons.mp hb with z | z
        · rw [z]
          exact el
        · rw [List.mem_singleton.mp z]
          exact il
      rw [upd_ne (Nat.ne_of_lt lb)]
      exact (hf b hb).1
  done := by
    intro X hP hw hK hc i pins s σ H E I hf st hg
    subst hP hw hK
    obtain ⟨⟨old, he⟩, hit, ne⟩ := st
    have hi : x.cps.size = i := hg
    subst hi
    have D := Draws.text (prog := X.prog) (w := X.w) (A := X.A.in1) (I.ok.hd hc) it x t
    obtain ⟨f0, f1, f2, f3, f4, f5⟩ := hf it (by simp)
    exact wpAny_pyNext_enum_endD D he hit fun h' eb => ⟨rfl, I.turned (t' := s.toks) (fun b o hb q => eb b o hb q) f0 f1 f3 f4 f5⟩
  self := fun A i s Q E ⟨⟨_, he⟩, _⟩ h => wpAny_pyIter_enum he h

/-- enumerate(e), e a text; enumerate(e, start=k) -/
def iEnumS (ta : TA) : TI := fun σ H R => ta σ H fun vs H1 => ∃ x, vs = [.str x] ∧ R (Itx x 0) H1
def iEnumK (ta tk : TA) : TI := fun σ H R => ta σ H fun vs H1 => tk σ H1 fun ks H2 => ∃ x k, vs = [.str x] ∧ ks = [.int k] ∧ -(2 ^ 63) ≤ k ∧ k < 2 ^ 63 ∧ R (Itx x k) H2
section
variable {X : Cx} {e f : Expr} {ta tk : TA} {p pos tpos kpos : Pos} {elts : List Expr} {kk : Nat}
theorem begun_tx {pins : List (Addr × Obj)} {σ : L2.St} {H : Hp} {s : Shared} {R : It → Hp → Prop} {x : Str} {t : Tok} {k : Int} {h' : Heap} (I : Inv X pins σ H s)
    (he : IsEnum h' (s.heap.objs.size + 1) s.heap.objs.size k .none) (hit : h'.IsStrIter s.heap.objs.size (strIterType x) x t 0) (hk : ∀ b o, s.heap.get? b = some o → h'.get? b = some o) (q : R (Itx x k) H) :
    PIE X pins σ (.Tuple elts kk tpos) R (.ref (s.heap.objs.size + 1)) { s with heap := h' } := by
  refine ⟨_, [s.heap.objs.size + 1, s.heap.objs.size], _, _, H, rfl, I.kept (t' := s.toks) hk, turn_tx (x := x) (t := t) (c := k), ⟨⟨.none, ?_⟩, hit, Nat.succ_ne_self _⟩, fun b hb => ?_, q⟩
  · have z : k + ((0 : Nat) : Int) = k := by omega
    rw [z]
    exact he
  · have lb : s.heap.objs.size ≤ b := by
      rcases List.mem_cons.mp hb with z | z
      · rw [z]
        exact Nat.le_succ _
      · rw [List.mem_singleton.mp z]
        exact Nat.le_refl _
    exact I.fpOk lb (I.hok.fresh lb)
theorem pi_enumS (hg : Gl X "enumerate") (hm : X.mg "enumerate" = none) (ha : PA X [e] ta) (hs : starEach [e] X.env = [(false, eval e X.env)] := by rfl) :
    PI X (.Tuple elts kk tpos) (.Call (.Name "enumerate" p) [e] [] pos) (iEnumS ta) := by
  refine ⟨fun pins s σ H R I h => Call_ (ld_blt I hg hm boot_enumerate (PyProof.Rows.callWith_type1 (thn (ha.run pos pins s σ H _ I h) ?_) hs rfl))⟩
  rintro us s1 ⟨vs, H1, I1, r1, x, rfl, q⟩
  obtain ⟨u, rfl, ru⟩ := vals1 r1
  obtain ⟨t, rfl⟩ := ru
  exact call_enumerate_str fun h' he hit _ hk => wpAny_pyIter_enum he (begun_tx I1 he hit hk q)
theorem pi_enumK (hg : Gl X "enumerate") (hm : X.mg "enumerate" = none) (ha : PA X [e] ta) (hk : PK X [⟨some ("start" : Str), f, kpos⟩] tk) (hs : starEach [e] X.env = (false, eval e X.env) :: starEach [] X.env := by rfl)
    (hpl : ((backTo pos (starEach [e] X.env)).any (·.1) || (backToKw pos (keywordEach [⟨some ("start" : Str), f, kpos⟩] X.env)).any (·.1.isNone)) = false := by rfl) :
    PI X (.Tuple elts kk tpos) (.Call (.Name "enumerate" p) [e] [⟨some ("start" : Str), f, kpos⟩] pos) (iEnumK ta tk) := by
  refine ⟨fun pins s σ H R I h => wpAny_Call_Name_kw (ld_blt I hg hm boot_enumerate ?_)⟩
  refine PySem.W.callWith_of (P := fun _ => True) hpl (fun _ _ => ⟨.machine, .inr (.inl rfl), fun {A' Q' E' s'} _ z => wpAny_pure z⟩) (PyProof.Rows.evalArgs_kw2 (by rfl) (thn (ha.run pos pins s σ H _ I h) ?_) hs)
  rintro us s1 ⟨vs, H1, I1, r1, q⟩
  refine thn (hk.run pos pins s1 σ H1 _ I1 q) ?_
  rintro ws s2 ⟨zs, H2, I2, r2, x, k, rfl, rfl, k0, k1, q⟩
  refine ⟨trivial, ?_⟩
  obtain ⟨u, rfl, ru⟩ := vals1 r1
  obtain ⟨t, rfl⟩ := ru
  obtain ⟨u2, rfl, ru2⟩ := vals1 r2
  obtain ⟨t2, rfl⟩ := ru2
  refine enum_begins_start (begins_text x t) trivial k0 k1 fun h' he ho _ hk => wpAny_pyIter_enum he (begun_tx I2 he ⟨_, ho, rfl, rfl⟩ hk q)
end

/-! ### o.f |= e -/
def rOr : V → V → Hp → VK → Prop := fun x y H Q => ∃ i j, x = .int i ∧ y = .int j ∧ Q (.int (Builtin.bitOr i j)) H
theorem in_or {X : Cx} : InOp X .BitOr rOr := by
  rintro pins s σ H x y u v Q I rx ry ⟨i, j, rfl, rfl, q⟩
  obtain ⟨t, rfl⟩ := id rx
  obtain ⟨t', rfl⟩ := id ry
  exact PyProof.Rows.ior_int ⟨.int (Builtin.bitOr i j), H, I.tok _, ⟨_, rfl⟩, q⟩

/-! ### f(k = e, ..) -/
section
variable {X : Cx} {CX : CXT} {k : Nat} {f : Addr} {fd : FuncData} {ps ks : List Str} {sp : Sp} {E : XK} {x : Str} {p pos : Pos} {tk : TA} {g : List Value → List Value → List Value} {gV : List V → List V → List V} {kws : List Keyword}
theorem pe_callK0 (F : FnOk X.prog X.w X.K X.mg X.base CX k f fd ps sp) (hr : Room k X.A) (hg : Gl X x) (hm : X.mg x = some (.ref f)) (hk : PySem.W.keepIn X.K (.ref f) = true) (hb : KBinds X.K fd ps ks g gV) (hx : Passes CX X E) (hkw : PK X kws tk)
    (hall : (backToKw pos (keywordEach kws X.env)).all (·.1.isSome) = true := by rfl) (hks : (backToKw pos (keywordEach kws X.env)).filterMap (·.1) = ks := by rfl) (hdb : (x == ("__debug__" : Str)) = false := by decide)
    (hpl : ((backTo pos (starEach [] X.env)).any (·.1) || (backToKw pos (keywordEach kws X.env)).any (·.1.isNone)) = false := by rfl) :
    PE X (.Call (.Name x p) [] kws pos) (tCallK sp gV E tNil tk) := by
  refine ⟨fun pins s σ H Q I h => wpAny_Call_Name_kw (ld_glob I hg hm ?_ hdb)⟩
  refine PySem.W.callWith_KW0 (h₀ := X.base) I.ok.mod.kin hk hall (thn (hkw.run pos pins s σ H _ I h) ?_) hpl
  rintro ws s2 ⟨zs, H2, I2, rz, q⟩
  refine ⟨I2.kIn, ?_⟩
  rw [hks]
  exact run_fnk F hr hb hx I2 .nil rz q
end
end Gr

set_option Elab.async false
set_option maxRecDepth 100000
set_option maxHeartbeats 2000000
set_option linter.all false
/-! Ours: quiet code: expressions and small defs over data that leave all that stood as it was, whatever frames run around. -/
namespace Gr
open PySem PySem.Spec PyProof.Rows L2 GxR

/-- the value holds the data -/
def Vd (h : Heap) (v : Value) (d : PyData) : Prop := ∃ as, Reads h v d as
theorem Vd.up {h h' : Heap} {v : Value} {d : PyData} (r : Vd h v d) (k : ∀ b o, h.get? b = some o → h'.get? b = some o) : Vd h' v d := let ⟨as, r⟩ := r; ⟨as, PyProof.Rows.Reads.keeps k r⟩
inductive VdAll (h : Heap) : List Value → List PyData → Prop
  | nil : VdAll h [] []
  | cons {v : Value} {vs : List Value} {d : PyData} {ds : List PyData} : Vd h v d → VdAll h vs ds → VdAll h (v :: vs) (d :: ds)
theorem VdAll.up {h h' : Heap} (k : ∀ b o, h.get? b = some o → h'.get? b = some o) : ∀ {vs : List Value} {ds : List PyData}, VdAll h vs ds → VdAll h' vs ds
  | _, _, .nil => .nil
  | _, _, .cons a b => .cons (a.up k) (VdAll.up k b)
theorem VdAll.len {h : Heap} : ∀ {vs : List Value} {ds : List PyData}, VdAll h vs ds → vs.length = ds.length
  | _, _, .nil => rfl
  | _, _, .cons _ b => congrArg (· + 1) (VdAll.len b)
theorem VdAll.get {h : Heap} : ∀ {vs : List Value} {ds : List PyData}, VdAll h vs ds → ∀ {i : Nat} {d : PyData}, ds[i]? = some d → ∃ v, vs[i]? = some v ∧ Vd h v d
  | _, _, .nil, i, d, e => by cases e
  | _, _, .cons a b, 0, d, e => by cases e; exact ⟨_, rfl, a⟩
  | _, _, .cons a b, i + 1, d, e => VdAll.get b e
theorem vd_all {h : Heap} : ∀ {vs : List Value} {ds : List PyData} {as : List Addr}, ReadsAll h vs ds as → VdAll h vs ds
  | _, _, _, .nil => .nil
  | _, _, _, .cons a b => .cons ⟨_, a⟩ (vd_all b)
theorem kk {s s' : Shared} (k : Keeps s s') : ∀ b o, s.heap.get? b = some o → s'.heap.get? b = some o := by
  obtain ⟨h', tk, rfl, q⟩ := k
  exact q
theorem kt {s s' s'' : Shared} (k : Keeps s s') (k' : Keeps s' s'') : Keeps s s'' := by
  obtain ⟨h', tk, rfl, q⟩ := k
  obtain ⟨h2, t2, rfl, q2⟩ := k'
  exact ⟨h2, t2, rfl, fun b o e => q2 b o (q b o e)⟩
theorem Keeps.ns {s s' : Shared} (k : Keeps s s') {L : Addr} {m : Str → Option Value} (h : s.heap.Ns L m) : s'.heap.Ns L m := h.keeps (kk k)

/-- where quiet code stands -/
structure Qc (K : PySem.W.Frag) (mg : Str → Option Value) (base : Heap) (env : Env) : Prop where
  mod : Mod K mg base
  kind : env.scope.kind = .function
  glob : env.globals = mainGlobals
  blt : env.builtins = builtinsNs

/-- what quiet code asks of the state that it runs in -/
structure Qs (base h0 : Heap) (k : Nat) (env : Env) (m : Str → Option Value) (B : Around) (z : Shared) : Prop where
  room : Room k B
  bs : ∀ b o, base.get? b = some o → z.heap.get? b = some o
  up : ∀ b o, h0.get? b = some o → z.heap.get? b = some o
  ns : z.heap.Ns env.locals m
theorem Qs.next {base h0 : Heap} {k : Nat} {env : Env} {m : Str → Option Value} {B : Around} {z z' : Shared} (q : Qs base h0 k env m B z) (e : Keeps z z') : Qs base h0 k env m B z' :=
  ⟨q.room, fun b o x => kk e b o (q.bs b o x), fun b o x => kk e b o (q.up b o x), Keeps.ns e q.ns⟩

section
variable {P : Program} {w : World} {K : PySem.W.Frag} {mg : Str → Option Value} {base h0 : Heap} {k : Nat} {env : Env} {m : Str → Option Value}
/-- e tells d -/
def QE (P : Program) (w : World) (base h0 : Heap) (k : Nat) (env : Env) (m : Str → Option Value) (e : Expr) (d : PyData) : Prop :=
  ∀ (B : Around) (E : Value → Shared → Prop) (z : Shared), Qs base h0 k env m B z → wpAny (model P w) B (eval e env) (fun y z' => Vd z'.heap y d ∧ Keeps z z') E z
def QEs (P : Program) (w : World) (base h0 : Heap) (k : Nat) (env : Env) (m : Str → Option Value) (es : List Expr) (ds : List PyData) : Prop :=
  ∀ (B : Around) (E : Value → Shared → Prop) (z : Shared) (pos : Pos), Qs base h0 k env m B z → wpAny (model P w) B (spliced (backTo pos (starEach es env))) (fun us z' => VdAll z'.heap us ds ∧ Keeps z z') E z
theorem vd_bool {h : Heap} {y : Value} {b : Bool} (r : Vd h y (.bool b)) : y = .bool b := by
  obtain ⟨as, r⟩ := r
  cases r
  rfl
theorem vd_int {h : Heap} {y : Value} {i : Int} (r : Vd h y (.int i)) : ∃ t, y = .int i t := by
  obtain ⟨as, r⟩ := r
  cases r
  exact ⟨_, rfl⟩
theorem vd_tup {h : Heap} {y : Value} {ds : List PyData} (r : Vd h y (.tuple ds)) : ∃ t its, y = .ref t ∧ IsTup h t its ∧ VdAll h its.toList ds := by
  obtain ⟨as, r⟩ := r
  cases r with
  | tuple h1 h2 h3 h4 => exact ⟨_, _, rfl, ⟨_, h1, h2, _, h3⟩, vd_all h4⟩

theorem qe_name {x : Str} {p : Pos} {v : Value} {d : PyData} (C : Qc K mg base env) (hl : env.scope.names.lookup x = some .local) (hm : m x = some v) (hv : Vd h0 v d) (hd : (x == ("__debug__" : Str)) = false := by decide) :
    QE P w base h0 k env m (.Name x p) d := fun B E z q =>
  wpAny_Name (wpAny_loadName_local C.kind hl q.ns hm ⟨hv.up q.up, keeps_refl _⟩) hd
theorem qe_int {i : Int} {j : Nat} {p : Pos} : QE P w base h0 k env m (.Constant (.int i) j p) (.int i) := fun B E z q =>
  wpAny_Constant_int ⟨⟨_, .int _ _⟩, keeps_tok _ _⟩
theorem q_glob {B : Around} {E : Value → Shared → Prop} {z : Shared} {x : Str} {u : Value} {p : Pos} {Q : Value → Shared → Prop} (C : Qc K mg base env) (q : Qs base h0 k env m B z) (hg : env.scope.names.lookup x = some .globalImplicit) (hm : mg x = some u) (h : Q u z) (hd : (x == ("__debug__" : Str)) = false := by decide) :
    wpAny (model P w) B (eval (.Name x p) env) Q E z :=
  Calls.Name_function_global C.kind hg (Calls.loadGlobal_global (by rw [C.glob]; exact C.mod.glob.keeps q.bs) hm h) hd
theorem q_blt {B : Around} {E : Value → Shared → Prop} {z : Shared} {x : Str} {u : Value} {p : Pos} {Q : Value → Shared → Prop} (C : Qc K mg base env) (q : Qs base h0 k env m B z) (hg : env.scope.names.lookup x = some .globalImplicit) (hm : mg x = none) (hv : bootBuiltins x = some u) (h : Q u z)
    (hn : x ≠ "__name__" := by decide) (hd : (x == ("__debug__" : Str)) = false := by decide) : wpAny (model P w) B (eval (.Name x p) env) Q E z := by
  obtain ⟨mb, h1, h2⟩ := C.mod.blt
  exact Calls.Name_function_global C.kind hg (Calls.loadGlobal_builtin (by rw [C.glob]; exact C.mod.glob.keeps q.bs) hm (by rw [C.blt]; exact h1.keeps q.bs) ((h2 x hn).trans hv) h) hd
/-- a whole number of the module -/
theorem qe_gint {x : Str} {p : Pos} {i : Int} {t : Tok} (C : Qc K mg base env) (hg : env.scope.names.lookup x = some .globalImplicit) (hm : mg x = some (.int i t)) (hd : (x == ("__debug__" : Str)) = false := by decide) :
    QE P w base h0 k env m (.Name x p) (.int i) := fun B E z q => q_glob C q hg hm ⟨⟨_, .int _ _⟩, keeps_refl _⟩ hd

theorem qes_nil : QEs P w base h0 k env m [] [] := fun B E z pos q => Calls.spliced_nil ⟨.nil, keeps_refl _⟩
theorem qes_cons {e : Expr} {es : List Expr} {d : PyData} {ds : List PyData} (h1 : QE P w base h0 k env m e d) (h2 : QEs P w base h0 k env m es ds) (hs : starEach (e :: es) env = (false, eval e env) :: starEach es env := by rfl) :
    QEs P w base h0 k env m (e :: es) (d :: ds) := by
  intro B E z pos q
  rw [hs]
  show wpAny _ _ (spliced ((false, eval e env) :: backTo pos (starEach es env))) _ _ z
  refine Calls.spliced_cons (thn (h1 B E z q) fun u z1 ⟨r1, k1⟩ => ?_)
  exact thn (h2 B E z1 pos (q.next k1)) fun us z2 ⟨r2, k2⟩ => ⟨.cons (r1.up (kk k2)) r2, kt k1 k2⟩

/-- isinstance(e, T) -/
theorem qe_isi {e : Expr} {T : Str} {T' : String} {p1 p2 pos : Pos} {d : PyData} {f : PyData → Bool} (C : Qc K mg base env) (he : QE P w base h0 k env m e d) (hg : env.scope.names.lookup ("isinstance" : Str) = some .globalImplicit) (hm : mg "isinstance" = none)
    (hgT : env.scope.names.lookup T = some .globalImplicit) (hmT : mg T = none) (hvT : bootBuiltins T = some (.type T')) (hT1 : T ≠ "__name__") (hT2 : (T == ("__debug__" : Str)) = false)
    (hi : ∀ {A : Around} {E : Value → Shared → Prop} {s : Shared} {v : Value} {d : PyData} {as : List Addr} {Q : Value → Shared → Prop}, Reads s.heap v d as → (∀ tk, s.toks ≤ tk → Q (.bool (f d)) { s with toks := tk }) → wpAny (model P w) A (call (.builtin "isinstance") [v, .type T']) Q E s)
    (hb : bootBuiltins "isinstance" = some (.builtin "isinstance") := by decide +kernel)
    (hs : starEach [e, .Name T p2] env = (false, eval e env) :: starEach [.Name T p2] env := by rfl) (hs2 : starEach [.Name T p2] env = (false, eval (.Name T p2) env) :: starEach [] env := by rfl)
    (hpl : (backTo pos (starEach [.Name T p2] env)).any (·.1) = false := by rfl) :
    QE P w base h0 k env m (.Call (.Name "isinstance" p1) [e, .Name T p2] [] pos) (.bool (f d)) := by
  intro B E z q
  refine wpAny_Call_Name_kw (q_blt C q hg hm hb (PyProof.Rows.callWith_builtin1 ?_ hs hpl))
  rw [hs]
  show wpAny _ _ (spliced ((false, eval e env) :: backTo pos (starEach [.Name T p2] env))) _ _ z
  refine Calls.spliced_cons (thn (he B E z q) fun u z1 ⟨r1, k1⟩ => ?_)
  rw [hs2]
  show wpAny _ _ (spliced ((false, eval (.Name T p2) env) :: backTo pos (starEach [] env))) _ _ z1
  refine Calls.spliced_cons (q_blt C (q.next k1) hgT hmT hvT (Calls.spliced_nil ?_) hT1 hT2)
  obtain ⟨as, r1⟩ := r1
  exact hi r1 fun tk _ => ⟨⟨_, .bool _⟩, kt k1 (keeps_tok _ _)⟩
/-- len(e), e a tuple -/
theorem qe_len {e : Expr} {p1 pos : Pos} {ds : List PyData} (C : Qc K mg base env) (he : QE P w base h0 k env m e (.tuple ds)) (hg : env.scope.names.lookup ("len" : Str) = some .globalImplicit) (hm : mg "len" = none) (hl : ds.length ≤ sizeLine)
    (hs : starEach [e] env = (false, eval e env) :: starEach [] env := by rfl) (hpl : (backTo pos (starEach [] env)).any (·.1) = false := by rfl) :
    QE P w base h0 k env m (.Call (.Name "len" p1) [e] [] pos) (.int ds.length) := by
  intro B E z q
  refine wpAny_Call_Name_kw (q_blt C q hg hm PySem.boot_len (PyProof.Rows.callWith_builtin1 ?_ hs hpl))
  rw [hs]
  show wpAny _ _ (spliced ((false, eval e env) :: backTo pos (starEach [] env))) _ _ z
  refine Calls.spliced_cons (thn (he B E z q) fun u z1 ⟨r1, k1⟩ => Calls.spliced_nil ?_)
  obtain ⟨t, its, rfl, ht, ha⟩ := vd_tup r1
  have hn := line63
  have hz : its.size = ds.length := by
    have := ha.len
    rw [← this, Array.length_toList]
  refine len_tuple ht (by rw [hz]; omega) ⟨?_, kt k1 (keeps_tok _ _)⟩
  rw [hz]
  exact ⟨_, .int _ _⟩
/-- e[i] -/
theorem qe_ix {e : Expr} {i : Nat} {j : Nat} {p pos : Pos} {ds : List PyData} {d : PyData} (he : QE P w base h0 k env m e (.tuple ds)) (hi : ds[i]? = some d) (hl : ds.length ≤ sizeLine) : QE P w base h0 k env m (.Subscript e (.Constant (.int i) j p) pos) d := by
  intro B E z q
  refine Subscript_ (thn (he B E z q) fun u z1 ⟨r1, k1⟩ => wpAny_Constant_int ?_)
  obtain ⟨t, its, rfl, ht, ha⟩ := vd_tup r1
  have hn := line63
  have hz : its.size = ds.length := by
    have := ha.len
    rw [← this, Array.length_toList]
  obtain ⟨hi1, _⟩ := List.getElem?_eq_some_iff.mp hi
  obtain ⟨v, hv, rv⟩ := ha.get hi
  have hv' : its[i]? = some v := by rw [← Array.getElem?_toList]; exact hv
  have hj : seqIndex? (i : Int) its.size = some i := by
    unfold seqIndex?
    have h1 : ¬ ((i : Int) < 0) := by omega
    have h2 : (0 : Int) ≤ (i : Int) ∧ (i : Int) < (its.size : Int) := by omega
    simp [h1, h2]
  refine subscriptTail_builtinR (x := v) ht.typeIs slot_tuple_getitem.lookup (getItem_tuple (j := i) (Q := fun r s' => r = v ∧ (Vd s'.heap r d ∧ Keeps z s')) ht (by omega) (by omega) hj hv' ⟨rfl, rv, kt k1 (keeps_tok _ _)⟩)
/-- a op b of whole numbers -/
theorem qe_cmp {a b : Expr} {op : CmpOp} {i j : Int} {c : Int → Int → Bool} {pos : Pos} (ha : QE P w base h0 k env m a (.int i)) (hb : QE P w base h0 k env m b (.int j))
    (ho : ∀ {A : Around} {E : Value → Shared → Prop} {s : Shared} {t u : Tok} {Q : Value → Shared → Prop}, Q (.bool (c i j)) s → wpAny (model P w) A (compareOp op (.int i t) (.int j u)) Q E s) (hm : behindInMarks op b = false := by with_unfolding_all rfl) :
    QE P w base h0 k env m (.Compare a [op] [b] pos) (.bool (c i j)) := by
  intro B E z q
  refine wpAny_Compare1 (thn (ha B E z q) fun u z1 ⟨r1, k1⟩ => thn (hb B E z1 (q.next k1)) fun v z2 ⟨r2, k2⟩ => ?_) hm
  obtain ⟨t, rfl⟩ := vd_int r1
  obtain ⟨t', rfl⟩ := vd_int r2
  exact ho ⟨⟨_, .bool _⟩, kt k1 k2⟩
/-- a op b op' c -/
theorem qe_chain {a b c : Expr} {op op' : CmpOp} {i j l : Int} {f g : Int → Int → Bool} {pos : Pos} (ha : QE P w base h0 k env m a (.int i)) (hb : QE P w base h0 k env m b (.int j)) (hc : QE P w base h0 k env m c (.int l))
    (ho : ∀ {A : Around} {E : Value → Shared → Prop} {s : Shared} {t u : Tok} {Q : Value → Shared → Prop}, Q (.bool (f i j)) s → wpAny (model P w) A (compareOp op (.int i t) (.int j u)) Q E s)
    (ho' : ∀ {A : Around} {E : Value → Shared → Prop} {s : Shared} {t u : Tok} {Q : Value → Shared → Prop}, Q (.bool (g j l)) s → wpAny (model P w) A (compareOp op' (.int j t) (.int l u)) Q E s)
    (hm : lastMarks [op, op'] [b, c] = false := by with_unfolding_all rfl) : QE P w base h0 k env m (.Compare a [op, op'] [b, c] pos) (.bool (f i j && g j l)) := by
  intro B E z q
  refine Compare_chain (thn (ha B E z q) fun u z1 ⟨r1, k1⟩ => chain_link (thn (hb B E z1 (q.next k1)) fun v z2 ⟨r2, k2⟩ => ?_)) hm
  obtain ⟨t, rfl⟩ := vd_int r1
  obtain ⟨t', rfl⟩ := vd_int r2
  refine ho (wpAny_truthy_bool ?_)
  cases f i j with
  | false => exact ite_ff ⟨⟨_, .bool _⟩, kt k1 k2⟩
  | true =>
    refine ite_tt (chain_last (thn (hc B E z2 ((q.next k1).next k2)) fun x z3 ⟨r3, k3⟩ => ?_))
    obtain ⟨t3, rfl⟩ := vd_int r3
    refine ho' ⟨?_, kt k1 (kt k2 k3)⟩
    rw [Bool.true_and]
    exact ⟨_, .bool _⟩
theorem qe_one {e : Expr} {op : BoolOp} {pos : Pos} {d : PyData} (h : QE P w base h0 k env m e d) : QE P w base h0 k env m (.BoolOp op [e] pos) d := fun B E z q => BoolOp_one (h B E z q)
theorem qe_and {a b : Expr} {rest : List Expr} {x y : Bool} {pos : Pos} (ha : QE P w base h0 k env m a (.bool x)) (hb : x = true → QE P w base h0 k env m (.BoolOp .And (b :: rest) pos) (.bool y)) :
    QE P w base h0 k env m (.BoolOp .And (a :: b :: rest) pos) (.bool (x && y)) := by
  intro B E z q
  refine BoolOp_and (thn (ha B E z q) fun u z1 ⟨r1, k1⟩ => ?_)
  cases vd_bool r1
  refine wpAny_truthy_bool ?_
  cases x with
  | false => exact ite_ff ⟨⟨_, .bool _⟩, k1⟩
  | true => exact ite_tt (thn (hb rfl B E z1 (q.next k1)) fun v z2 ⟨r2, k2⟩ => ⟨r2, kt k1 k2⟩)
theorem qe_or {a b : Expr} {rest : List Expr} {x y : Bool} {pos : Pos} (ha : QE P w base h0 k env m a (.bool x)) (hb : x = false → QE P w base h0 k env m (.BoolOp .Or (b :: rest) pos) (.bool y)) :
    QE P w base h0 k env m (.BoolOp .Or (a :: b :: rest) pos) (.bool (x || y)) := by
  intro B E z q
  refine BoolOp_or (thn (ha B E z q) fun u z1 ⟨r1, k1⟩ => ?_)
  cases vd_bool r1
  refine wpAny_truthy_bool ?_
  cases x with
  | true => exact ite_tt ⟨⟨_, .bool _⟩, k1⟩
  | false => exact ite_ff (thn (hb rfl B E z1 (q.next k1)) fun v z2 ⟨r2, k2⟩ => ⟨r2, kt k1 k2⟩)
theorem qe_not {a : Expr} {x : Bool} {pos : Pos} (ha : QE P w base h0 k env m a (.bool x)) : QE P w base h0 k env m (.UnaryOp .Not a pos) (.bool (!x)) := by
  intro B E z q
  refine UnaryOp_ (thn (ha B E z q) fun u z1 ⟨r1, k1⟩ => ?_)
  cases vd_bool r1
  exact not_of (wpAny_truthy_bool ⟨⟨_, .bool _⟩, k1⟩)
end

/-- a quiet def: whatever runs around, it tells d of the data ds -/
structure QF (P : Program) (w : World) (K : PySem.W.Frag) (mg : Str → Option Value) (base : Heap) (k : Nat) (f : Addr) (fd : FuncData) (ps : List Str) (pre : List PyData → PyData → Prop) : Prop where
  len : ∀ ds d, pre ds d → ds.length = ps.length
  run : ∀ (B : Around) (z : Shared) (args : Args) (us : List Value) (ds : List PyData) (d : PyData), Room k B → (∀ b o, base.get? b = some o → z.heap.get? b = some o) → BindsTo z fd args (ps.zip us) → VdAll z.heap us ds → pre ds d →
    codeAny (model P w) B (.call (.ref f) args) (fun r z' => ∃ y, r = .ok (.ret y) ∧ Vd z'.heap y d ∧ Keeps z z') z
section
variable {P : Program} {w : World} {K : PySem.W.Frag} {mg : Str → Option Value} {base : Heap}
/-- a def of one return, by its expression -/
theorem qf_of {k : Nat} {x ql : Str} {st : Stmt} {f : Addr} {fd : FuncData} {ps : List Str} {pre : List PyData → PyData → Prop} {e : Expr} {pos : Pos} (M : Mod K mg base) (F : Fun K x ql st f fd) (S : FnScope ps ps (defScope st)) (loc : ∀ y ∈ ps, (defScope st).names.lookup y = some .local) (bd : defBody st = [.Return (some e) pos])
    (len : ∀ ds d, pre ds d → ds.length = ps.length)
    (hb : ∀ (env : Env) (m : Str → Option Value) (h0 : Heap) (us : List Value) (ds : List PyData) (d : PyData), env.scope = defScope st → Qc K mg base env → (∀ (i : Nat) (y : Str) (v : Value), ps[i]? = some y → us[i]? = some v → m y = some v) → VdAll h0 us ds → pre ds d → QE P w base h0 k env m e d) :
    QF P w K mg base (k + 1) f fd ps pre := by
  refine ⟨len, fun B z args us ds d hr hbs hbi hv hp => ?_⟩
  obtain ⟨oc, od, kV, doc, pm, an, cdv, ct, osl, rfl, lk, hcd⟩ := F.ex
  have KX : K.In z.heap := M.kin.keeps hbs
  have lim : z.heap.NoLimit := M.nolimit.keeps hbs
  have hlen := len _ _ hp
  have hul : us.length = ps.length := hv.len.trans hlen
  refine codeAny_call_function hr.depth (KX _ _ lk) rfl S.co S.gen rfl (PySem.W.codeRec_of KX hcd) (hbi _ _ _ _ ?_)
  refine wpAny_newFunctionEnv_cells S.kind (fun ⟨n, v⟩ hy => .inl (loc n (List.of_mem_zip hy).1)) fun env he s1 x => ?_
  subst he
  refine ⟨lim.keeps x.toInCall.keep, codeAny_func ?_⟩
  have hk : Keeps z s1 := x.done
  show wpAny _ _ (execs (defBody st) _) _ _ s1
  rw [bd]
  refine wpAny_execs_cons (wpAny_Return_some ?_)
  refine thn (hb _ _ z.heap us ds d rfl ⟨M, S.kind, rfl, rfl⟩ (fun i y v h1 h2 => bindL_get S.nd h1 h2 (loc y (List.mem_of_getElem? h1))) hv hp (B.deeper _) _ s1 ⟨hr.deeper _, fun b o q => kk hk b o (hbs b o q), kk hk, x.toInCall.ns⟩) fun y z2 ⟨r2, k2⟩ => ?_
  exact ⟨y, rfl, r2, kt hk k2⟩
/-- f(e, ..) of a quiet def -/
theorem qe_call {h0 : Heap} {k : Nat} {env : Env} {m : Str → Option Value} {x : Str} {f : Addr} {fd : FuncData} {ps : List Str} {pre : List PyData → PyData → Prop} {e : Expr} {es : List Expr} {ds : List PyData} {d : PyData} {p pos : Pos} (C : Qc K mg base env) (F : QF P w K mg base k f fd ps pre)
    (hg : env.scope.names.lookup x = some .globalImplicit) (hm : mg x = some (.ref f)) (hk : PySem.W.keepIn K (.ref f) = true) (hb : Binds K fd ps []) (ha : QEs P w base h0 k env m (e :: es) ds) (hp : pre ds d) (hdb : (x == ("__debug__" : Str)) = false := by decide)
    (he : starEach (e :: es) env = (false, eval e env) :: starEach es env := by rfl) (hpl : (backTo pos (starEach es env)).any (·.1) = false := by rfl) : QE P w base h0 k env m (.Call (.Name x p) (e :: es) [] pos) d := by
  intro B E z q
  refine wpAny_Call_Name_kw (q_glob C q hg hm (PySem.W.callWith_K (h₀ := base) C.mod.kin hk (thn (ha B E z pos q) fun us z1 ⟨r1, k1⟩ => ⟨C.mod.kin.keeps (q.next k1).bs, ?_⟩) he hpl) hdb)
  have hl : (us ++ []).length = ps.length := by
    rw [List.append_nil, r1.len]
    exact F.len _ _ hp
  refine wpAny_call (codeAny_mono (F.run B z1 ⟨us, []⟩ (us ++ []) ds d q.room (q.next k1).bs (hb z1 us (C.mod.kin.keeps (q.next k1).bs) hl) (by rw [List.append_nil]; exact r1) hp) fun r z2 h => ?_)
  obtain ⟨y, rfl, r2, k2⟩ := h
  exact ⟨r2, kt k1 k2⟩
end
end Gr

set_option Elab.async false
set_option maxRecDepth 100000
set_option maxHeartbeats 2000000
set_option linter.all false
/-! Ours: all(..), any(..) of a generator expression over a tuple whose element is quiet: it may call quiet defs. -/
namespace Gr
open PySem PySem.Spec PyProof.Rows L2 GxR
mutual
/-- data that is read does not stand at an object that is of no class -/
theorem reads_but {h h' : Heap} {P : Addr} {o0 : Obj} (k : ∀ b o, b ≠ P → h.get? b = some o → h'.get? b = some o) (p0 : h.get? P = some o0) (c0 : o0.cls = .none) : ∀ {v : Value} {d : PyData} {as : List Addr}, Reads h v d as → Reads h' v d as
  | _, _, _, .none => .none
  | _, _, _, .bool b => .bool b
  | _, _, _, .int i t => .int i t
  | _, _, _, .str x t => .str x t
  | _, _, _, .list h1 h2 h3 h4 => .list (k _ _ (fun e => by rw [e, p0] at h1; cases h1; rw [c0] at h2; cases h2) h1) h2 h3 (readsAll_but k p0 c0 h4)
  | _, _, _, .tuple h1 h2 h3 h4 => .tuple (k _ _ (fun e => by rw [e, p0] at h1; cases h1; rw [c0] at h2; cases h2) h1) h2 h3 (readsAll_but k p0 c0 h4)
  | _, _, _, .dict h1 h2 h3 h4 h5 => .dict (k _ _ (fun e => by rw [e, p0] at h1; cases h1; rw [c0] at h2; cases h2) h1) h2 h3 (readsAll_but k p0 c0 h4) (readsAll_but k p0 c0 h5)
theorem readsAll_but {h h' : Heap} {P : Addr} {o0 : Obj} (k : ∀ b o, b ≠ P → h.get? b = some o → h'.get? b = some o) (p0 : h.get? P = some o0) (c0 : o0.cls = .none) : ∀ {vs : List Value} {ds : List PyData} {as : List Addr}, ReadsAll h vs ds as → ReadsAll h' vs ds as
  | _, _, _, .nil => .nil
  | _, _, _, .cons a b => .cons (reads_but k p0 c0 a) (readsAll_but k p0 c0 b)
end
/-- a tuple's length has a bound -/
def szD : PyData → Prop
  | .tuple es => es.length ≤ sizeLine
  | _ => True
theorem DqAll.len {K : PySem.W.Frag} {H : Hp} {vs : List V} {ds : List PyData} (h : DqAll K H vs ds) : vs.length = ds.length :=
  DqAll.rec (motive_1 := fun _ _ _ => True) (motive_2 := fun vs ds _ => vs.length = ds.length) trivial (fun _ => trivial) (fun _ => trivial) (fun _ => trivial) (fun _ _ _ => trivial) (fun _ _ _ => trivial) (fun _ _ _ _ _ => trivial) rfl (fun _ _ _ ih => congrArg (· + 1) ih) h
/-- the element over the data d -/
def EltD (X : Cx) (k : Nat) (scope : Scope) (x : Str) (elt : Expr) (pb : PyData → Bool) : Prop :=
  ∀ (en : Env) (m : Str → Option Value) (h0 : Heap) (v : Value) (d : PyData), en.scope = scope → Qc X.K X.mg X.base en → m x = some v → Vd h0 v d → szD d → QE X.prog X.w X.base h0 k en m elt (.bool (pb d))
def trD (pb : PyData → Bool) (l : List PyData) (j : Nat) : Bool := match l[j]? with
  | some d => pb d
  | none => false
theorem trD_all (pb : PyData → Bool) : ∀ l : List PyData, (List.range l.length).all (trD pb l) = l.all pb
  | [] => rfl
  | d :: l => by
    have e : (d :: l).length = l.length + 1 := rfl
    rw [e, List.range_succ_eq_map, List.all_cons, List.all_map, List.all_cons, ← trD_all pb l]
    rfl
theorem trD_any (pb : PyData → Bool) : ∀ l : List PyData, (List.range l.length).any (trD pb l) = l.any pb
  | [] => rfl
  | d :: l => by
    have e : (d :: l).length = l.length + 1 := rfl
    rw [e, List.range_succ_eq_map, List.any_cons, List.any_map, List.any_cons, ← trD_any pb l]
    rfl
section
variable {X : Cx} {pins : List (Addr × Obj)} {σ : L2.St} {H : Hp} {s : Shared}
theorem Dq.sz (I : Inv X pins σ H s) {v : V} {d : PyData} (h : Dq X.K H v d) : szD d := by
  cases h with
  | tup hs ha =>
    obtain ⟨its, r, pl, hz⟩ := I.tuple hs
    show _ ≤ sizeLine
    rw [← ha.len]
    exact hz
  | _ => trivial
theorem DqAll.szs (I : Inv X pins σ H s) {vs : List V} {ds : List PyData} (h : DqAll X.K H vs ds) : ∀ d ∈ ds, szD d :=
  DqAll.rec (motive_1 := fun v d _ => szD d) (motive_2 := fun vs ds _ => ∀ d ∈ ds, szD d) trivial (fun _ => trivial) (fun _ => trivial) (fun _ => trivial) (fun _ _ _ => trivial) (fun hs ha _ => Dq.sz I (.tup hs ha)) (fun _ _ _ _ _ => trivial) (fun d hd => nomatch hd)
    (fun _ _ i1 i2 d hd => by
      rcases List.mem_cons.mp hd with e | e
      · rw [e]; exact i1
      · exact i2 d e) h
/-- the generator g over the data ds, ready to be walked -/
def ReadyD (X : Cx) (pins : List (Addr × Obj)) (σ : L2.St) (H1 : Hp) (P : Addr) (ds : List PyData) (pb : PyData → Bool) (g : Addr) (s5 : Shared) : Prop :=
  ∃ (fp wr : List Addr) (G : Array GenState → Array GenState → Prop) (F : Nat → Value → Prop) (S : Nat → Shared → Prop),
    WalksS X.prog X.w X.A.in1 g fp wr G ds.length F S ∧ S 0 s5 ∧ TruthOf X.prog X.w X.A.in1 F (trD pb ds) ∧ ∀ s', Moved wr G s5 s' → ∃ H2, Tabbed P H1 H2 ∧ Inv X pins σ H2 s'
theorem genD {c P : Addr} {elt iter : Expr} {x : Str} {px gpos : Pos} {scope : Scope} {pb : PyData → Bool} {te : TE} {k : Nat} {W : Value → Shared → Prop} {R : List PyData → Hp → Prop}
    (hr : Room (k + 1) X.A) (TB : TabB X.base X.mg c P) (hcode : X.env.code = .ref c) (S : GenS X.env scope x) (hi : PE X iter te) (hel : EltD X k scope x elt pb)
    (hs : ∀ v, genFold iter X.env v = pure v) (I : Inv X pins σ H s) (h : te σ H fun v H1 => ∃ ds, Dq X.K H1 v (.tuple ds) ∧ TabG H1 P ∧ R ds H1)
    (hQ : ∀ ds H1 g z, R ds H1 → ReadyD X pins σ H1 P ds pb g z → W (.ref g) z) :
    wpAny (model X.prog X.w) X.A (eval (.GeneratorExp elt [⟨.Name x px, iter, [], 0⟩] scope gpos) X.env) W X.xe s := by
  refine wpAny_GeneratorExp_walksQD hr.hd S.co (closure_ok S.free) S.cell S.dot S.loc S.kind hr.depth (thn (hi.run pins s σ H _ I h) ?_) hs
  rintro xv s1 ⟨v, H1, I1, r1, ds, hd, ⟨ps, hP, ht⟩, q1⟩
  obtain ⟨asv, rv, _⟩ := hd.reads I1 xv r1
  obtain ⟨tt, its, rfl, hit, hva⟩ := vd_tup ⟨asv, rv⟩
  have hsz : its.size = ds.length := by rw [← hva.len, Array.length_toList]
  have szs : ∀ d ∈ ds, szD d := by
    cases hd with
    | tup hs2 ha2 => exact DqAll.szs I1 ha2
  have tlt : tt < s1.heap.objs.size := let ⟨_, e, _⟩ := hit; Heap.lt_size e
  refine wpAny_pyIter_tuple hit ⟨I1.nolimit.push _, code_then I1 TB hcode hP ht fun cv h3 tk more up lt hp ht' lim => ?_⟩
  have p0 : s1.heap.get? P = some { cls := .none, data := .fields ps } := I1.hok P _ hP
  have pl : P < s1.heap.objs.size := Heap.lt_size p0
  have at1 : ∀ b, b ∈ [s1.heap.objs.size] → b = s1.heap.objs.size := fun b hb => List.mem_singleton.mp hb
  have cl : cStatics < s1.heap.objs.size := let ⟨_, n, _⟩ := I1.nolimit; n.lt
  have tP : tt ≠ P := fun e => by
    obtain ⟨o, e1, e2, _⟩ := hit
    rw [e, p0] at e1
    cases e1
    cases e2
  have up0 : ∀ b u, b ≠ P → s1.heap.get? b = some u → h3.get? b = some u := fun b u n e => up b u n (Heap.get?_push_of_some _ e)
  have tn : tt ≠ s1.heap.objs.size := Nat.ne_of_lt tlt
  refine ⟨s1.heap.objs.size, [s1.heap.objs.size, tt], [s1.heap.objs.size], its.size, (fun i v => its[i]? = some v), (fun i h => h.IsTupleIter s1.heap.objs.size tt i ∧ h.IsTuple tt its), fun _ => true, fun i y => ∃ d, ds[i]? = some d ∧ y = .bool (pb d), rfl,
    fun A' hh => Walks.tuple hh _ _ tn its, ⟨⟨_, up _ _ (fun e => ?_) (Heap.get?_push_size _ rfl), rfl, rfl⟩, ?_⟩, fun b hb => ?_, lim, fun z => ?_, fun href hh => ?_, ?_⟩
  · rw [← e] at pl
    exact Nat.lt_irrefl _ pl
  · obtain ⟨o, e1, e2⟩ := hit
    exact ⟨o, up0 _ _ tP e1, e2⟩
  · rcases List.mem_cons.mp hb with e | e
    · rw [e]; exact lt
    · rw [List.mem_singleton.mp e]
      exact Nat.lt_trans tlt lt
  · rw [at1 _ z] at cl
    exact Nat.lt_irrefl _ cl
  · constructor
    · intro B E' i v z m _ _ _ _ _ _ _
      rw [List.forIn_nil]
      exact wpAny_pure ⟨rfl, keeps_refl _⟩
    · intro B E' i v z m hB hD hU hv _ hn hm hk
      have hi2 : i < ds.length := by
        have := (Array.getElem?_eq_some_iff.mp hv).1
        omega
      have hdi : ds[i]? = some ds[i] := List.getElem?_eq_getElem hi2
      obtain ⟨v', hv', rv'⟩ := hva.get hdi
      have ev : v' = v := by
        rw [Array.getElem?_toList, hv] at hv'
        exact (Option.some.inj hv').symm
      rw [ev] at rv'
      have keepA : ∀ b o, b ≠ P → s1.heap.get? b = some o → z.heap.get? b = some o := fun b o nb e => by
        have lb : b < s1.heap.objs.size := Heap.lt_size e
        refine hk b (List.mem_range.mpr (Nat.lt_trans lb lt)) (fun q => ?_) _ (hh _ _ (up0 b o nb e))
        rw [at1 b q] at lb
        exact Nat.lt_irrefl _ lb
      have room : Room k B := ⟨hB, by have := hr.dp; omega, by have := hr.un; omega⟩
      -- what is read of the element stands in z's heap
      have rz : Vd z.heap v ds[i] := by
        obtain ⟨as2, r2⟩ := rv'
        exact ⟨as2, reads_but keepA p0 rfl r2⟩
      refine thn (hel _ m z.heap v ds[i] rfl ⟨I1.mod, S.kind, ?_, rfl⟩ hm rz (szs _ (List.getElem_mem hi2)) B E' z ⟨room, fun b o e => ?_, fun _ _ e => e, hn⟩) fun y z' r => ⟨⟨_, hdi, vd_bool r.1⟩, r.2⟩
      · exact I1.ok.glob
      · obtain ⟨e1, e2⟩ := I1.bs b o e
        exact keepA b o (fun q => by rw [q, hP] at e2; cases e2) e1
  · intro g h5 tk5 gs gb ag sz5 k5 W5 hat
    simp only [GxR.passing_true, List.length_range] at W5
    rw [hsz] at W5 hat
    refine hQ ds H1 g _ q1 ⟨_, _, _, _, _, W5.in4_1, hat, ?_, fun s' mv => ?_⟩
    · rintro j y z Q' E' ⟨i, hij, d, hd2, rfl⟩ q
      obtain ⟨hj, ej⟩ := List.getElem?_eq_some_iff.mp hij
      rw [List.getElem_range] at ej
      cases ej
      have q' : Q' (trD pb ds j) z := q
      unfold trD at q'
      rw [hd2] at q'
      exact wpAny_truthy_bool q'
    · have nw : ∀ b u, s1.heap.get? b = some u → b ∉ h3.objs.size :: [s1.heap.objs.size] := fun b u e hb => by
        have l := Heap.lt_size e
        have l2 : s1.heap.objs.size < h3.objs.size := lt
        rcases List.mem_cons.mp hb with z | z
        · rw [z] at l
          exact Nat.lt_asymm l l2
        · rw [at1 b z] at l
          exact Nat.lt_irrefl _ l
      have J := inv_tab (more := more) (h' := s'.heap) (g' := s'.gens) (d' := s'.drawn) (t' := s'.toks) I1 hP (fun b u n e => mv.heap b u (nw b u e) (k5 b u (up0 b u n e))) (mv.heap P _ (nw P _ p0) (k5 P _ hp)) (AllBare.movedS (I1.bare.push gb) mv)
      have es : ({ s1 with heap := s'.heap, gens := s'.gens, drawn := s'.drawn, toks := s'.toks } : Shared) = s' := by
        obtain ⟨_, _, _, _, _⟩ := s'
        have := mv.os
        dsimp only at this
        rw [this]
      rw [es] at J
      exact ⟨upd H1 P (.tbl (ps ++ more)), ⟨⟨_, upd_same, ht'⟩, fun b hb => upd_ne hb⟩, J⟩
def tAllD (K : PySem.W.Frag) (P : Addr) (pb : PyData → Bool) (te : TE) : TE := fun σ H Q => te σ H fun v H1 => ∃ ds, Dq K H1 v (.tuple ds) ∧ TabG H1 P ∧ ∀ H2, Tabbed P H1 H2 → Q (.bl (ds.all pb)) H2
/-- all(elt for x in e), e a tuple of data -/
theorem pe_allD {c P : Addr} {elt iter : Expr} {x : Str} {px p pos gpos : Pos} {scope : Scope} {pb : PyData → Bool} {te : TE} {k : Nat}
    (hr : Room (k + 1) X.A) (hg : Gl X "all") (hm : X.mg "all" = none) (TB : TabB X.base X.mg c P) (hcode : X.env.code = .ref c) (S : GenS X.env scope x) (hi : PE X iter te) (hel : EltD X k scope x elt pb)
    (hs : ∀ v, genFold iter X.env v = pure v)
    (he : starEach [.GeneratorExp elt [⟨.Name x px, iter, [], 0⟩] scope gpos] X.env = (false, eval (.GeneratorExp elt [⟨.Name x px, iter, [], 0⟩] scope gpos) X.env) :: starEach [] X.env := by rfl) :
    PE X (.Call (.Name "all" p) [.GeneratorExp elt [⟨.Name x px, iter, [], 0⟩] scope gpos] [] pos) (tAllD X.K P pb te) := by
  refine ⟨fun pins s σ H Q I h => wpAny_Call_Name_kw (ld_blt I hg hm boot_all (PyProof.Rows.callWith_builtin1 ?_ he (by rfl)))⟩
  rw [he]
  show wpAny _ _ (spliced ((false, eval (.GeneratorExp elt [⟨.Name x px, iter, [], 0⟩] scope gpos) X.env) :: backTo pos (starEach [] X.env))) _ _ s
  refine Calls.spliced_cons (genD (R := fun ds H1 => ∀ H2, Tabbed P H1 H2 → Q (.bl (ds.all pb)) H2) hr TB hcode S hi hel hs I h ?_)
  rintro ds H1 g z hR ⟨fp, wr, G, F, St, W, hst, htr, hI⟩
  refine Calls.spliced_nil (call_all_walkS (W.self 0 _ _ _ hst ⟨g, fp, wr, G, _, F, St, _, rfl, W, hst, htr, fun s' mv => ?_⟩))
  obtain ⟨H2, hT, J⟩ := hI s' mv
  rw [trD_all pb ds]
  exact ⟨.bl _, H2, J, rfl, hR H2 hT⟩
end
end Gr

set_option Elab.async false
set_option maxRecDepth 100000
set_option maxHeartbeats 4000000
set_option linter.all false
/-! Ours: texts as lists of signs. -/
namespace Gr
open PySem PySem.Spec PyProof.Rows L2
theorem same_upd {H : Hp} {a : Addr} {o : HO} (h : H a = none) : Same H (upd H a o) := fun b u e => by
  rw [upd_ne (ne_of_none e h)]
  exact e
theorem tx_ext {a b : Str} (h : a.cps.toList = b.cps.toList) : a = b := by
  obtain ⟨⟨x⟩⟩ := a
  obtain ⟨⟨y⟩⟩ := b
  cases (show x = y from h)
  rfl
theorem tx_len (z : Str) : z.length = z.cps.toList.length := rfl
theorem tx_app (a b : Str) : (a ++ b).cps.toList = a.cps.toList ++ b.cps.toList := by
  rw [PySem.Str.cps_append]
  exact Array.toList_append
theorem tx_starts (z : Str) (c : Nat) : Txt.startswith z ⟨#[c]⟩ = (z.cps.toList[0]? == some c) := by
  have e := PySem.StrLaws.subAt_one z c 0
  unfold Txt.startswith
  rw [Bool.eq_iff_iff, Bool.and_eq_true, decide_eq_true_eq, beq_iff_eq]
  exact e
theorem tx_last (z : Str) (h : 1 ≤ z.length) : z.cps.toList[z.length - 1]? = z.cps.toList.getLast? := by
  rw [List.getLast?_eq_getElem?]
  rfl
theorem tx_ends (z : Str) (c : Nat) : Txt.endswith z ⟨#[c]⟩ = (z.cps.toList.getLast? == some c) := by
  have e := PySem.StrLaws.subAt_one z c (z.length - 1)
  unfold Txt.endswith
  rw [Bool.eq_iff_iff, Bool.and_eq_true, decide_eq_true_eq, beq_iff_eq]
  have l1 : (⟨#[c]⟩ : Str).length = 1 := rfl
  rw [l1]
  rw [l1] at e
  constructor
  · rintro ⟨h1, h2⟩
    rw [← tx_last z (by omega)]
    exact e.mp ⟨by omega, h2⟩
  · intro h
    have hp : 1 ≤ z.length := by
      rw [tx_len]
      cases q : z.cps.toList with
      | nil =>
        rw [q] at h
        cases h
      | cons a r => simp
    rw [← tx_last z hp] at h
    have := e.mpr h
    exact ⟨by omega, this.2⟩
theorem tx_sub0 (z : Str) (n : Nat) : (Builtin.Str.strSub z 0 n).cps.toList = z.cps.toList.take n := by
  unfold Builtin.Str.strSub
  simp
theorem tx_suffix (z : Str) (c : Nat) : (Txt.removesuffix z ⟨#[c]⟩).cps.toList = if z.cps.toList.getLast? == some c then z.cps.toList.dropLast else z.cps.toList := by
  have e := tx_ends z c
  unfold Txt.endswith at e
  have l1 : (⟨#[c]⟩ : Str).length = 1 := rfl
  rw [l1] at e
  unfold Txt.removesuffix
  rw [l1]
  have e2 : (decide (1 ≤ z.length) && Builtin.Str.subAt z ⟨#[c]⟩ (z.length - 1)) = (z.cps.toList.getLast? == some c) := by
    rw [← e, Nat.zero_add]
  rw [e2]
  cases hq : z.cps.toList.getLast? == some c with
  | false => rfl
  | true =>
    have hp : 1 ≤ z.length := by
      rw [hq] at e2
      rw [Bool.and_eq_true, decide_eq_true_eq] at e2
      exact e2.1
    have ne : ¬ (z.length - 1 - 0 == z.length) = true := by
      rw [beq_iff_eq]
      omega
    show (if (z.length - 1 - 0 == z.length) = true then z else Builtin.Str.strSub z 0 (z.length - 1)).cps.toList = _
    rw [if_neg ne, tx_sub0, if_pos rfl, List.dropLast_eq_take]
    rfl
/-! slices -/
theorem cut_head (z : Str) : (cutS z none (some (-1))).cps.toList = z.cps.toList.dropLast := by
  unfold cutS
  show ((z.cps.toList.drop 0).take (HT.sIx z.length z.length (some (-1)) - 0)) = _
  rw [List.drop_zero, List.dropLast_eq_take, Nat.sub_zero]
  congr 1
  unfold HT.sIx
  rw [tx_len]
  simp
  omega
theorem cut_from (z : Str) (n : Nat) : (cutS z (some (n : Int)) none).cps.toList = z.cps.toList.drop n := by
  unfold cutS
  show ((z.cps.toList.drop (HT.sIx z.length 0 (some (n : Int)))).take (HT.sIx z.length z.length none - HT.sIx z.length 0 (some (n : Int)))) = _
  rw [HT.sIx_nat, HT.sIx_none, tx_len]
  by_cases h : n ≤ z.cps.toList.length
  · rw [Nat.min_eq_left h]
    exact List.take_of_length_le (by rw [List.length_drop]; exact Nat.le_refl _)
  · rw [Nat.min_eq_right (by omega), List.drop_of_length_le (Nat.le_refl _), List.drop_of_length_le (by omega), List.take_nil]
theorem cut_to (z : Str) (n : Nat) : (cutS z none (some (n : Int))).cps.toList = z.cps.toList.take n := by
  unfold cutS
  show ((z.cps.toList.drop 0).take (HT.sIx z.length z.length (some (n : Int)) - 0)) = _
  rw [List.drop_zero, HT.sIx_nat, tx_len, Nat.sub_zero]
  by_cases h : n ≤ z.cps.toList.length
  · rw [Nat.min_eq_left h]
  · rw [Nat.min_eq_right (by omega), List.take_of_length_le (Nat.le_refl _), List.take_of_length_le (by omega)]
theorem lit_slash : ("/" : Str) = ⟨#[47]⟩ := by decide +kernel
theorem lit_dollar : ("$" : Str) = ⟨#[36]⟩ := by decide +kernel
theorem lit_star : ("*" : Str) = ⟨#[42]⟩ := by decide +kernel
theorem str_eq_iff (a b : Str) : a = b ↔ a.cps.toList = b.cps.toList := ⟨fun e => by rw [e], tx_ext⟩
theorem one_inj {a b : Nat} : (⟨#[a]⟩ : Str) = ⟨#[b]⟩ ↔ a = b := by
  constructor
  · intro e
    have := congrArg (fun z : Str => z.cps.toList) e
    simpa using this
  · rintro rfl
    rfl
/-! heaps, comprehensions -/
theorem same_into {H H2 : Hp} {D : Addr} {o : HO} (hD : H D = none) (s : Same H H2) : Same H (upd H2 D o) := fun b u e => (upd_ne (ne_of_none e hD)).trans (s b u e)
theorem wipe1 {σ : L2.St} {j : Nat} {v : Option V} : wipe ((wipe σ [j]).set j v) [j] = wipe σ [j] := by simp [wipe]
/-- o.f within a comprehension's block -/
theorem pe_fldB {X : Cx} {s : Shared} {H : Hp} {sc : Scope} {en : Env} {fp : List Addr} {e : Expr} {f : Str} {pos : Pos} {ta : TE} (he : PE (X.blk s H sc en fp) e ta) (hb : attributeBase e f (X.blk s H sc en fp).env (eval e (X.blk s H sc en fp).env) = eval e (X.blk s H sc en fp).env) :
    PE (X.blk s H sc en fp) (.Attribute e f pos) (tFld X.K ta f) := pe_fld he hb
/-! parts that only look -/
theorem and_pure {ta tb : TE} {σ : L2.St} {H : Hp} {Q : VK} (c1 c2 : Bool) (h1 : ∀ Q' : VK, Q' (.bl c1) H → ta σ H Q') (h2 : c1 = true → ∀ Q' : VK, Q' (.bl c2) H → tb σ H Q') (q : Q (.bl (c1 && c2)) H) : tAndV ta tb σ H Q := by
  refine h1 _ ⟨c1, rfl, ?_⟩
  cases c1 with
  | true => exact if_pos rfl ▸ h2 rfl _ q
  | false => exact q
theorem or_pure {ta tb : TE} {σ : L2.St} {H : Hp} {Q : VK} (c1 c2 : Bool) (h1 : ∀ Q' : VK, Q' (.bl c1) H → ta σ H Q') (h2 : c1 = false → ∀ Q' : VK, Q' (.bl c2) H → tb σ H Q') (q : Q (.bl (c1 || c2)) H) : tOrV ta tb σ H Q := by
  refine h1 _ ⟨c1, rfl, ?_⟩
  cases c1 with
  | false => exact if_neg Bool.false_ne_true ▸ h2 rfl _ q
  | true => exact q
def tTruB (K : PySem.W.Frag) (te : TE) : TT := fun σ H Q => te σ H fun x H' => ∃ k, TruV K x H' k ∧ Q k H'
theorem pt_truthB {X : Cx} {s : Shared} {H : Hp} {sc : Scope} {en : Env} {fp : List Addr} {e : Expr} {te : TE} (he : PE (X.blk s H sc en fp) e te) (hi : ∀ whole, isTrue e (X.blk s H sc en fp).env whole = (do let v ← whole; standAt e.pos; holding [v] (truthy v))) :
    PT (X.blk s H sc en fp) e (tTruB X.K te) := pt_truth he hi
end Gr

set_option Elab.async false
set_option maxRecDepth 100000
set_option maxHeartbeats 4000000
set_option linter.all false
/-! Ours: zip of a list and a tuple. -/
namespace Gr
open PySem PySem.Spec PyProof.Rows L2

theorem paired_at {α β : Type} {r : α → β → Prop} : ∀ {xs : List α} {ys : List β}, Paired r xs ys → ∀ {i : Nat} {x : α}, xs[i]? = some x → ∃ y, ys[i]? = some y ∧ r x y
  | _, _, .nil, i, x, h => by cases h
  | _, _, .cons a b, 0, x, h => ⟨_, rfl, by cases h; exact a⟩
  | _, _, .cons a b, i + 1, x, h => paired_at b h
theorem paired_len {α β : Type} {r : α → β → Prop} : ∀ {xs : List α} {ys : List β}, Paired r xs ys → xs.length = ys.length
  | _, _, .nil => rfl
  | _, _, .cons a b => congrArg (· + 1) (paired_len b)
theorem plain_is {h : Heap} {a : Addr} {its : Array Value} (p : PlainL h a its) : h.IsList a its := let ⟨o, n, h1, h2, _, h4⟩ := p; ⟨o, h1, h2, n, h4⟩
theorem in5 {N c : Nat} (h : c ∈ [N + 4, N + 2, N + 3, N, N + 1]) : N ≤ c ∧ c ≤ N + 4 := by
  simp only [List.mem_cons, List.not_mem_nil, or_false] at h
  omega
/-- pairs of the list at a and the tuple at b -/
def ItzM (K : PySem.W.Frag) (a b : Addr) (xs ys : List V) : It :=
  ⟨fun i H => SqL K H a xs ∧ SqT K H b ys ∧ i < xs.length ∧ i < ys.length,
   fun i H v H' => ∃ T x y, v = .ref T ∧ H T = none ∧ H' = upd H T (.tup [x, y]) ∧ xs[i]? = some x ∧ ys[i]? = some y,
   fun i H => SqL K H a xs ∧ SqT K H b ys ∧ i ≤ xs.length ∧ i ≤ ys.length ∧ (i = xs.length ∨ i = ys.length)⟩
def YzM (xs ys : List V) : Nat → Hp → V → Hp → Prop := fun i H v H' => ∃ T x y, v = .ref T ∧ H T = none ∧ H' = upd H T (.tup [x, y]) ∧ xs[i]? = some x ∧ ys[i]? = some y
theorem walk_zipM {K : PySem.W.Frag} {a b : Addr} {xs ys : List V} {n : Nat} (h1 : n = xs.length) (h2 : n = ys.length) : Walk (ItzM K a b xs ys) n (fun H => SqL K H a xs ∧ SqT K H b ys) (YzM xs ys) :=
  ⟨fun i H hi q => ⟨q.1, q.2, by omega, by omega⟩, fun H q => ⟨q.1, q.2, by omega, by omega, .inl h1⟩, fun _ _ _ _ _ _ y => y⟩
theorem turn_zipM {P : Program} {w : World} {K : PySem.W.Frag} {elts : List Expr} {kk : Nat} {tpos : Pos} {a b : Addr} {xs ys : List V} {N : Nat} (ha : a < N) (hb : b < N) :
    Turn P w K (.Tuple elts kk tpos) (ItzM K a b xs ys) [N + 4, N + 2, N + 3, N, N + 1] (N + 4) (fun i h => IsZip h (N + 4) (N + 2) (N + 3) .none ∧ IsTupOf2 h (N + 2) (.ref N) (.ref (N + 1)) ∧ (∃ x y, IsTupOf2 h (N + 3) x y) ∧ h.IsListIter N a i ∧ h.IsTupleIter (N + 1) b i) where
  mem := List.mem_cons_self
  obj := by
    rintro i h ⟨hz, hTI, ⟨_, _, hTO⟩, ⟨o1, e1, _, d1⟩, ⟨o2, e2, _, d2⟩⟩ b hb
    simp only [List.mem_cons, List.not_mem_nil, or_false] at hb
    rcases hb with rfl | rfl | rfl | rfl | rfl
    · exact ⟨_, hz, fun v q => nomatch q⟩
    · exact ⟨_, hTI, fun v q => nomatch q⟩
    · exact ⟨_, hTO, fun v q => nomatch q⟩
    · exact ⟨_, e1, fun v q => by rw [d1] at q; cases q⟩
    · exact ⟨_, e2, fun v q => by rw [d2] at q; cases q⟩
  keep := by
    rintro i h h' ⟨hz, hTI, ⟨x, y, hTO⟩, ⟨o1, e1, r1⟩, ⟨o2, e2, r2⟩⟩ k
    exact ⟨k _ (by simp) _ hz, k _ (by simp) _ hTI, ⟨x, y, k _ (by simp) _ hTO⟩, ⟨o1, k _ (by simp) _ e1, r1⟩, ⟨o2, k _ (by simp) _ e2, r2⟩⟩
  item := by
    intro X hP hw hK hc i pins s σ H E I hf st hg
    subst hP hw hK
    obtain ⟨hz, hTI, ⟨x, y, hTO⟩, it1, it2⟩ := st
    obtain ⟨hL, hT, l1, l2⟩ := hg
    obtain ⟨v1, r1, p1, m1⟩ := I.list hL
    obtain ⟨v2, r2, p2, m2⟩ := I.tuple hT
    have g1 : xs[i]? = some xs[i] := List.getElem?_eq_getElem l1
    have g2 : ys[i]? = some ys[i] := List.getElem?_eq_getElem l2
    obtain ⟨u1, w1, q1⟩ := paired_at r1 g1
    obtain ⟨u2, w2, q2⟩ := paired_at r2 g2
    have n1 : i < v1.toArray.size := by rw [List.size_toArray, ← paired_len r1]; exact l1
    have n2 : i < v2.toArray.size := by rw [List.size_toArray, ← paired_len r2]; exact l2
    have sep := zip_sep2 (N := N) (fp1 := [a]) (fp2 := [b]) (fun c hc => by rw [List.mem_singleton.mp hc]; exact ha) (fun c hc => by rw [List.mem_singleton.mp hc]; exact hb)
    have zl : N + 4 < s.heap.objs.size := Heap.lt_size hz
    refine wpAny_pyNext_zipD2_item sep (Draws.list (A := X.A.in1) (I.ok.hd hc) N a (Nat.ne_of_lt ha) v1.toArray) (Draws.tuple (A := X.A.in1) (I.ok.hd hc) (N + 1) b (Nat.ne_of_lt (Nat.lt_succ_of_lt hb)) v2.toArray)
      hz hTI hTO ⟨it1, ?_⟩ ⟨it2, ?_⟩ n1 n2 fun x1 x2 h' tk e1 e2 hz' hTO' st1 st2 hT' hs' hk => ?_
    · exact plain_is p1
    · exact p2
    have ex1 : x1 = u1 := by
      have : v1[i]? = some x1 := (List.getElem?_toArray (xs := v1) (i := i)).symm.trans e1
      rw [w1] at this
      exact (Option.some.inj this).symm
    have ex2 : x2 = u2 := by
      have : v2[i]? = some x2 := (List.getElem?_toArray (xs := v2) (i := i)).symm.trans e2
      rw [w2] at this
      exact (Option.some.inj this).symm
    refine ⟨_, rfl, wpAny_letOwnedTupleGo_zip hz' fun h'' hz'' sb => ?_⟩
    have nT : s.heap.objs.size ≠ N + 4 := Nat.ne_of_gt zl
    have hT2 : h''.get? s.heap.objs.size = some { cls := .type "tuple", data := .seq #[x1, x2] } := (sb.2 _ nT).trans hT'
    have new : ObjOk X.prog X.w (upd H s.heap.objs.size (.tup [xs[i], ys[i]])) h'' s.heap.objs.size (.tup [xs[i], ys[i]]) :=
      ⟨by show 2 ≤ sizeLine; decide, _, .cons (ex1 ▸ q1) (.cons (ex2 ▸ q2) .nil), ⟨_, hT2, rfl, _, rfl⟩⟩
    have I1 : Inv X pins σ (upd H s.heap.objs.size (.tup [xs[i], ys[i]])) { s with heap := h'', toks := tk } := by
      refine I.turnedNew (ch := [N + 4, N + 2, N + 3, N, N + 1]) (fun b ob hb q => ?_) hf (Nat.le_refl _) new
      simp only [List.mem_cons, List.not_mem_nil, or_false, not_or] at hb
      exact (sb.2 b hb.1).trans (hk b ob hb.1 hb.2.2.1 hb.2.2.2.1 hb.2.2.2.2 q)
    have tInz : N + 2 ≠ N + 4 := by omega
    have n23 : N + 2 ≠ N + 3 := by omega
    have n20 : N + 2 ≠ N := by omega
    have n21 : N + 2 ≠ N + 1 := by omega
    have tOnz : N + 3 ≠ N + 4 := by omega
    have i1nz : N ≠ N + 4 := by omega
    have i2nz : N + 1 ≠ N + 4 := by omega
    refine ⟨.ref s.heap.objs.size, _, I1, rfl, ⟨_, _, _, rfl, I.hok.fresh (Nat.le_refl _), rfl, g1, g2⟩, ⟨hz'', ?_, ⟨x1, x2, (sb.2 _ tOnz).trans hTO'⟩, ?_, ?_⟩, fun c hc => ?_⟩
    · exact (sb.2 _ tInz).trans (hk _ _ tInz n23 n20 n21 hTI)
    · obtain ⟨o, q, r⟩ := st1.1
      exact ⟨o, (sb.2 _ i1nz).trans q, r⟩
    · obtain ⟨o, q, r⟩ := st2.1
      exact ⟨o, (sb.2 _ i2nz).trans q, r⟩
    · have lc : c < s.heap.objs.size := Nat.lt_of_le_of_lt (in5 hc).2 zl
      rw [upd_ne (Nat.ne_of_lt lc)]
      exact (hf c hc).1
  done := by
    intro X hP hw hK hc i pins s σ H E I hf st hg
    subst hP hw hK
    obtain ⟨hz, hTI, ⟨x, y, hTO⟩, it1, it2⟩ := st
    obtain ⟨hL, hT, l1, l2, e⟩ := hg
    obtain ⟨v1, r1, p1, m1⟩ := I.list hL
    obtain ⟨v2, r2, p2, m2⟩ := I.tuple hT
    have s1 : v1.toArray.size = xs.length := by rw [List.size_toArray, ← paired_len r1]
    have s2 : v2.toArray.size = ys.length := by rw [List.size_toArray, ← paired_len r2]
    have sep := zip_sep2 (N := N) (fp1 := [a]) (fp2 := [b]) (fun c hc => by rw [List.mem_singleton.mp hc]; exact ha) (fun c hc => by rw [List.mem_singleton.mp hc]; exact hb)
    refine wpAny_pyNext_zipD2_end sep (Draws.list (A := X.A.in1) (I.ok.hd hc) N a (Nat.ne_of_lt ha) v1.toArray) (Draws.tuple (A := X.A.in1) (I.ok.hd hc) (N + 1) b (Nat.ne_of_lt (Nat.lt_succ_of_lt hb)) v2.toArray)
      hz hTI hTO ⟨it1, ?_⟩ ⟨it2, ?_⟩ (by omega) (by omega) (by omega) fun h' tk hk => ⟨rfl, I.turnedL (ch := [N + 4, N + 2, N + 3, N, N + 1]) (fun c o hc q => ?_) hf⟩
    · exact plain_is p1
    · exact p2
    · simp only [List.mem_cons, List.not_mem_nil, or_false, not_or] at hc
      exact hk c o hc.1 hc.2.2.1 hc.2.2.2.1 hc.2.2.2.2 q
  self := fun A i s Q E ⟨hz, _⟩ h => wpAny_pyIter_zip hz h
/-- zip(xs, ys), a list and a tuple -/
def iZipM (K : PySem.W.Frag) (ta : TA) : TI := fun σ H R => ta σ H fun vs H1 => ∃ a b xs ys, vs = [.ref a, .ref b] ∧ SqL K H1 a xs ∧ SqT K H1 b ys ∧ R (ItzM K a b xs ys) H1
section
variable {X : Cx} {e e2 : Expr} {ta : TA} {p pos tpos : Pos} {elts : List Expr} {kk : Nat}
theorem pi_zipM (hg : Gl X "zip") (hm : X.mg "zip" = none) (ha : PA X [e, e2] ta) (hs : starEach [e, e2] X.env = (false, eval e X.env) :: starEach [e2] X.env := by rfl) (hpl : ((backTo pos (starEach [e2] X.env)).any (·.1)) = false := by rfl) :
    PI X (.Tuple elts kk tpos) (.Call (.Name "zip" p) [e, e2] [] pos) (iZipM X.K ta) := by
  refine ⟨fun pins s σ H R I h => Call_ (ld_blt I hg hm boot_zip (PyProof.Rows.callWith_type1 (thn (ha.run pos pins s σ H _ I h) ?_) hs hpl))⟩
  rintro us s1 ⟨vs, H1, I1, r1, a, b, xs, ys, rfl, hL, hT, q⟩
  obtain ⟨v1, q1, p1, m1⟩ := I1.list hL
  obtain ⟨v2, q2, p2, m2⟩ := I1.tuple hT
  match us, r1 with
  | _, .cons (b := _) e1 (.cons (b := _) e2 .nil) =>
  cases e1
  cases e2
  have la : a < s1.heap.objs.size := let ⟨_, _, e, _⟩ := p1; Heap.lt_size e
  have lb : b < s1.heap.objs.size := let ⟨_, e, _⟩ := p2; Heap.lt_size e
  refine zip_begins2 (begins_list a v1.toArray) (begins_tuple b v2.toArray) ?_ ?_ fun h' hz hTI hTO e1 e2 hs hk => wpAny_pyIter_zip hz ⟨_, [s1.heap.objs.size + 4, s1.heap.objs.size + 2, s1.heap.objs.size + 3, s1.heap.objs.size, s1.heap.objs.size + 1], _, _, H1, rfl, I1.kept (t' := s1.toks) hk, turn_zipM (xs := xs) (ys := ys) la lb, ⟨hz, hTI, ⟨_, _, hTO⟩, ⟨_, e1, rfl, rfl⟩, ⟨_, e2, rfl, rfl⟩⟩, fun c hc => ?_, q⟩
  · exact plain_is p1
  · exact p2
  · have lc : s1.heap.objs.size ≤ c := (in5 hc).1
    exact I1.fpOk lc (I1.hok.fresh lc)
end
end Gr

set_option Elab.async false
set_option maxRecDepth 100000
set_option maxHeartbeats 4000000
set_option linter.all false
/-! Ours: xs < ys of lists; (n, s) < (m, t) of tuples of an int and a text. -/
namespace Gr
open PySem PySem.Spec PyProof.Rows L2
theorem l_items {M : Model} {A : Around} {E : Value → Shared → Prop} {s : Shared} {l : Addr} {items : Array Value} {n : Nat} {dd : Option Addr} {sl : Array (Option Value)} {Q : Array Value → Shared → Prop}
    (hl : s.heap.get? l = some { cls := .type "list", dict := dd, data := .seq items n, slots := sl }) (q : Q items s) : wpAny M A (Builtin.List.listItems (.ref l)) Q E s := by
  obtain ⟨hp, g, d, tk, os⟩ := s
  unfold Builtin.List.listItems
  refine wpAny_bind ?_
  unfold seqItems?
  exact wpAny_bind (wpAny_load' hl (wpAny_pure (wpAny_pure q)))
theorem lt_loopAt (l b : Addr) (items items2 : Array Value) (n n2 : Nat) (dd dd2 : Option Addr) (sl sl2 : Array (Option Value)) (e r : Nat → Bool) :
    ∀ (k i : Nat), i + k = min items.size items2.size → Meets (Builtin.«list.__eq__.loop» { pos := [.ref l, .ref b, rawInt (i : Nat), rawInt 0] }) fun A R s =>
      s.heap.get? l = some { cls := .type "list", dict := dd, data := .seq items n, slots := sl } ∧ s.heap.get? b = some { cls := .type "list", dict := dd2, data := .seq items2 n2, slots := sl2 } ∧
        (∀ (j : Nat) (h1 : j < items.size) (h2 : j < items2.size), SeqAt.EqAt A.in1 s items[j] items2[j] (e j)) ∧
        (∀ (j : Nat) (h1 : j < items.size) (h2 : j < items2.size), e j = false → Ob.RcOp .Lt A.in1 s items[j] items2[j] (r j)) ∧
          R (.ok (.ret (.bool (Ob.lexAt e r (decide (items.size < items2.size)) i k)))) s
  | 0, i, hk => by
    rintro prog w A R s ⟨hl, hb, he, hr, h⟩
    refine wpAny_bind (l_items hl (wpAny_bind (l_items hb ?_)))
    have fin : wpAny (model prog w) A.in1 (do
        let xs ← Builtin.List.listItems (.ref l)
        let ys ← Builtin.List.listItems (.ref b)
        ret (.bool (decide (xs.size < ys.size)))) (fun fin s' => match fin with
          | .done f => R (.ok f) s'
          | .again c' => c'.quiet = true ∧ codeAny (model prog w) A c' R s') (fun e s' => R (.error e) s') s :=
      wpAny_bind (l_items hl (wpAny_bind (l_items hb (wpAny_pure h))))
    by_cases q : items.size ≤ i
    · have e1 : items[((i : Nat) : Int).toNat]? = none := Array.getElem?_eq_none q
      rw [e1]
      exact fin
    · have e1 : items[((i : Nat) : Int).toNat]? = some items[i] := Array.getElem?_eq_getElem (by omega)
      have e2 : items2[((i : Nat) : Int).toNat]? = none := Array.getElem?_eq_none (show items2.size ≤ i by omega)
      rw [e1, e2]
      exact fin
  | k + 1, i, hk => by
    rintro prog w A R s ⟨hl, hb, he, hr, h⟩
    refine wpAny_bind (l_items hl (wpAny_bind (l_items hb ?_)))
    have h1 : i < items.size := by omega
    have h2 : i < items2.size := by omega
    have e1 : items[((i : Nat) : Int).toNat]? = some items[i] := Array.getElem?_eq_getElem h1
    have e2 : items2[((i : Nat) : Int).toNat]? = some items2[i] := Array.getElem?_eq_getElem h2
    rw [e1, e2]
    refine wpAny_bind (he i h1 h2 prog w _ _ ?_)
    rw [Ob.lexAt_succ] at h
    cases hc : e i with
    | true =>
      rw [hc] at h
      have hs : (((i : Nat) : Int) + 1) = ((i + 1 : Nat) : Int) := rfl
      refine wpAny_pure ⟨plainId_quiet MeetsSeq3.plain_eq_loop _, codeAny_builtin MeetsSeq3.entry_eq_loop ?_⟩
      have := lt_loopAt l b items items2 n n2 dd dd2 sl sl2 e r k (i + 1) (by omega) prog w A R s ⟨hl, hb, he, hr, h⟩
      exact this
    | false =>
      rw [hc] at h
      refine wpAny_bind (l_items hl (wpAny_bind (l_items hb ?_)))
      rw [e1, e2]
      exact wpAny_bind (hr i h1 h2 hc prog w _ _ (wpAny_pure h))
theorem list_ltAt (l b : Addr) (items items2 : Array Value) (n n2 : Nat) (dd dd2 : Option Addr) (sl sl2 : Array (Option Value)) (e r : Nat → Bool) :
    Meets (Builtin.«list.__lt__» { pos := [.ref l, .ref b] }) fun A R s =>
      s.heap.get? l = some { cls := .type "list", dict := dd, data := .seq items n, slots := sl } ∧ s.heap.get? b = some { cls := .type "list", dict := dd2, data := .seq items2 n2, slots := sl2 } ∧
        (∀ (j : Nat) (h1 : j < items.size) (h2 : j < items2.size), SeqAt.EqAt A.in1 s items[j] items2[j] (e j)) ∧
        (∀ (j : Nat) (h1 : j < items.size) (h2 : j < items2.size), e j = false → Ob.RcOp .Lt A.in1 s items[j] items2[j] (r j)) ∧
          R (.ok (.ret (.bool (Ob.lexAt e r (decide (items.size < items2.size)) 0 (min items.size items2.size))))) s := by
  rintro prog w A R ⟨hp, g, d, tk, os⟩ ⟨hl, hb, he, hr, h⟩
  have f3 := AutoSeq1.sub_list_list
  refine wpAny_bind ?_
  unfold slotArgs
  refine wpAny_ite_false rfl (wpAny_ite_false rfl (wpAny_pure ?_))
  refine wpAny_bind (wpAny_bind (wpAny_bind (wpAny_loadPart' hb (wpAny_pure (wpAny_of_eq f3 ?_)))))
  refine wpAny_ite_false rfl (wpAny_ite_false rfl ?_)
  refine wpAny_pure ⟨plainId_quiet MeetsSeq3.plain_eq_loop _, codeAny_builtin MeetsSeq3.entry_eq_loop ?_⟩
  exact lt_loopAt l b items items2 n n2 dd dd2 sl sl2 e r _ 0 (Nat.zero_add _) prog w A R _ ⟨hl, hb, he, hr, h⟩
theorem lists_lt {A : Around} {s : Shared} {l b : Addr} {items items2 : Array Value} {e r : Nat → Bool} (hl : s.heap.IsList l items) (hb : s.heap.IsList b items2) (hu : A.units < cLine)
    (he : ∀ (j : Nat) (h1 : j < items.size) (h2 : j < items2.size), SeqAt.EqAt A.in1 s items[j] items2[j] (e j))
    (hr : ∀ (j : Nat) (h1 : j < items.size) (h2 : j < items2.size), e j = false → Ob.RcOp .Lt A.in1 s items[j] items2[j] (r j)) :
    Ob.RcOp .Lt A s (.ref l) (.ref b) (Ob.lexAt e r (decide (items.size < items2.size)) 0 (min items.size items2.size)) := by
  intro prog w E Q h
  obtain ⟨⟨cls, dd, data, sl⟩, ho, hc, n, hd⟩ := id hl
  obtain ⟨⟨cls2, dd2, data2, sl2⟩, ho2, hc2, n2, hd2⟩ := id hb
  dsimp only at hc hd hc2 hd2
  subst hc hd hc2 hd2
  exact richCompare_meets_room ⟨_, ho, rfl⟩ ⟨_, ho2, rfl⟩ F.slot_list_lt F.entry_list_lt (F.args_list_lt_2 (.ref l) (.ref b)) (list_ltAt l b items items2 n n2 dd dd2 sl sl2 e r) ⟨ho, ho2, he, hr, ⟨(fun x => nomatch x), h⟩⟩ hu
theorem rc_str {A : Around} {s : Shared} (x y : Str) (t u : Tok) : Ob.RcOp .Lt A s (.str x t) (.str y u) (decide (x.cps.toList < y.cps.toList)) := fun _ _ _ _ h => PySem.P.lt_str h
theorem lexAt_ints (ns ms : List Int) : ∀ (k i : Nat), i + k = min ns.length ms.length →
    Ob.lexAt (fun j => ns.getD j 0 == ms.getD j 0) (fun j => decide (ns.getD j 0 < ms.getD j 0)) (decide (ns.length < ms.length)) i k = HT.lexLt (ns.drop i) (ms.drop i)
  | 0, i, h => by
    rw [Ob.lexAt_zero]
    by_cases q : ns.length ≤ i
    · rw [List.drop_of_length_le q]
      by_cases q2 : ms.length ≤ i
      · rw [List.drop_of_length_le q2, HT.lexLt_nil_nil]
        exact decide_eq_false (by omega)
      · rw [List.drop_eq_getElem_cons (Nat.lt_of_not_le q2), HT.lexLt_nil_cons]
        exact decide_eq_true (by omega)
    · rw [List.drop_eq_getElem_cons (Nat.lt_of_not_le q), List.drop_of_length_le (show ms.length ≤ i by omega), HT.lexLt_cons_nil]
      exact decide_eq_false (by omega)
  | k + 1, i, h => by
    have h1 : i < ns.length := by omega
    have h2 : i < ms.length := by omega
    have e1 : ns.getD i 0 = ns[i] := by rw [List.getD_eq_getElem?_getD, List.getElem?_eq_getElem h1]; rfl
    have e2 : ms.getD i 0 = ms[i] := by rw [List.getD_eq_getElem?_getD, List.getElem?_eq_getElem h2]; rfl
    rw [Ob.lexAt_succ, List.drop_eq_getElem_cons h1, List.drop_eq_getElem_cons h2, HT.lexLt_cons, lexAt_ints ns ms k (i + 1) (by omega), e1, e2]
    by_cases q : ns[i] = ms[i]
    · rw [if_pos (by simp [q]), if_pos q]
    · rw [if_neg (by simp [q]), if_neg q]
/-- xs < ys, lists of ints -/
def rLtL (K : PySem.W.Frag) : R2 := fun x y H Q => ∃ a b ns ms, x = .ref a ∧ y = .ref b ∧ SqL K H a (ns.map V.int) ∧ SqL K H b (ms.map V.int) ∧ Q (.bl (HT.lexLt ns ms)) H
theorem op_ltL {X : Cx} (hu : X.A.units < cLine) : OpR X (compareOp .Lt) (rLtL X.K) := by
  rintro pins s σ H x y v u Q I rx ry ⟨a, b, ns, ms, rfl, rfl, ha, hb, q⟩
  cases (show v = Value.ref a from rx)
  cases (show u = Value.ref b from ry)
  obtain ⟨v1, r1, p1, m1⟩ := I.list ha
  obtain ⟨v2, r2, p2, m2⟩ := I.list hb
  have i1 := L2.intsAre_of r1
  have i2 := L2.intsAre_of r2
  have l1 : v1.toArray.size = ns.length := by rw [List.size_toArray, ← paired_len r1, List.length_map]
  have l2 : v2.toArray.size = ms.length := by rw [List.size_toArray, ← paired_len r2, List.length_map]
  have at1 : ∀ (j : Nat) (h : j < v1.toArray.size), ∃ t, v1.toArray[j] = Value.int (ns.getD j 0) t := fun j h => i1.int_at j _ (by simp)
  have at2 : ∀ (j : Nat) (h : j < v2.toArray.size), ∃ t, v2.toArray[j] = Value.int (ms.getD j 0) t := fun j h => i2.int_at j _ (by simp)
  have R := lists_lt (A := X.A) (s := s) (e := fun j => ns.getD j 0 == ms.getD j 0) (r := fun j => decide (ns.getD j 0 < ms.getD j 0)) (plain_is p1) (plain_is p2) hu
    (fun j h1 h2 => by
      obtain ⟨t, e1⟩ := at1 j h1
      obtain ⟨t2, e2⟩ := at2 j h2
      rw [e1, e2]
      exact SeqAt.EqAt.int_int _ _ _ _)
    (fun j h1 h2 _ => by
      obtain ⟨t, e1⟩ := at1 j h1
      obtain ⟨t2, e2⟩ := at2 j h2
      rw [e1, e2]
      exact Ob.RcOp.lt_int _ _ _ _)
  rw [l1, l2, lexAt_ints ns ms _ 0 (Nat.zero_add _)] at R
  exact R X.prog X.w X.xe (EP X pins σ Q) ⟨.bl _, H, I, rfl, q⟩
theorem two_vals {x y : V} {us : List Value} (h : Vals [x, y] us) : ∃ a b, us = [a, b] ∧ RelV x a ∧ RelV y b := by
  cases h with
  | cons a b =>
    cases b with
    | cons b c =>
      cases c
      exact ⟨_, _, rfl, a, b⟩
/-- (n, s) < (m, t) -/
def rLtP (K : PySem.W.Frag) : R2 := fun x y H Q => ∃ a b n m p r, x = .ref a ∧ y = .ref b ∧ SqT K H a [.int n, .str p] ∧ SqT K H b [.int m, .str r] ∧ Q (.bl (if n = m then decide (p.cps.toList < r.cps.toList) else decide (n < m))) H
theorem op_ltP {X : Cx} (hu : X.A.units < cLine) : OpR X (compareOp .Lt) (rLtP X.K) := by
  rintro pins s σ H x y v u Q I rx ry ⟨a, b, n, m, p, r, rfl, rfl, ha, hb, q⟩
  cases (show v = Value.ref a from rx)
  cases (show u = Value.ref b from ry)
  obtain ⟨v1, r1, p1, m1⟩ := I.tuple ha
  obtain ⟨v2, r2, p2, m2⟩ := I.tuple hb
  obtain ⟨x1, x2, rfl, f1, f2⟩ := two_vals r1
  obtain ⟨y1, y2, rfl, g1, g2⟩ := two_vals r2
  obtain ⟨t1, rfl⟩ := f1
  obtain ⟨t2, rfl⟩ := f2
  obtain ⟨t3, rfl⟩ := g1
  obtain ⟨t4, rfl⟩ := g2
  have R := Ob.RcOp.tuples_lt (A := X.A) (s := s) (e := fun j => if j = 0 then n == m else p == r) (r := fun j => if j = 0 then decide (n < m) else decide (p.cps.toList < r.cps.toList)) p1 p2 hu
    (fun j h1 h2 => by
      rcases j with _ | _ | j
      · exact SeqAt.EqAt.int_int _ _ _ _
      · exact SeqAt.EqAt.str_str _ _ _ _
      · exact absurd (show j + 1 + 1 < 2 from h1) (by omega))
    (fun j h1 h2 _ => by
      rcases j with _ | _ | j
      · exact Ob.RcOp.lt_int _ _ _ _
      · exact rc_str _ _ _ _
      · exact absurd (show j + 1 + 1 < 2 from h1) (by omega))
  have e : Ob.lexAt (fun j => if j = 0 then n == m else p == r) (fun j => if j = 0 then decide (n < m) else decide (p.cps.toList < r.cps.toList)) false 0 2 = (if n = m then decide (p.cps.toList < r.cps.toList) else decide (n < m)) := by
    rw [Ob.lexAt_succ, Ob.lexAt_succ, Ob.lexAt_zero]
    by_cases h1 : n = m
    · subst h1
      by_cases h2 : p = r
      · subst h2
        simp
      · simp [h2]
    · simp [h1]
  have z1 : ([Value.int n t1, Value.str p t2].toArray.size) = 2 := rfl
  have z2 : ([Value.int m t3, Value.str r t4].toArray.size) = 2 := rfl
  rw [z1, z2, Nat.min_self, decide_eq_false (Nat.lt_irrefl 2), e] at R
  exact R X.prog X.w X.xe (EP X pins σ Q) ⟨.bl _, H, I, rfl, q⟩
end Gr

set_option Elab.async false
set_option maxRecDepth 100000
set_option maxHeartbeats 4000000
set_option linter.all false
/-! Ours: values of any kind as data; tables of generators, any number of them; what stands beside a well. -/
namespace Gr
open PySem PySem.Spec PyProof.Rows L2 GxR
mutual
/-- a value that is data -/
inductive Od (H : Hp) : V → PyData → Prop
  | non : Od H .non .none
  | bl (b : Bool) : Od H (.bl b) (.bool b)
  | int (i : Int) : Od H (.int i) (.int i)
  | str (x : Str) : Od H (.str x) (.str x)
  | lst {a : Addr} {xs : List V} {ds : List PyData} : H a = some (.lst xs) → OdAll H xs ds → Od H (.ref a) (.list ds)
  | tup {a : Addr} {xs : List V} {ds : List PyData} : H a = some (.tup xs) → OdAll H xs ds → Od H (.ref a) (.tuple ds)
  | dic {a : Addr} {kvs : List (Key × V)} {ds : List (PyData × PyData)} : H a = some (.dK kvs) → OdAll H (kvs.map fun p => kV p.1) (ds.map (·.1)) → OdAll H (kvs.map (·.2)) (ds.map (·.2)) → Od H (.ref a) (.dict ds)
inductive OdAll (H : Hp) : List V → List PyData → Prop
  | nil : OdAll H [] []
  | cons {v : V} {vs : List V} {d : PyData} {ds : List PyData} : Od H v d → OdAll H vs ds → OdAll H (v :: vs) (d :: ds)
end
mutual
theorem Od.same {H H' : Hp} (s : Same H H') : ∀ {v : V} {d : PyData}, Od H v d → Od H' v d
  | _, _, .non => .non
  | _, _, .bl b => .bl b
  | _, _, .int i => .int i
  | _, _, .str x => .str x
  | _, _, .lst e a => .lst (s _ _ e) (OdAll.same s a)
  | _, _, .tup e a => .tup (s _ _ e) (OdAll.same s a)
  | _, _, .dic e a b => .dic (s _ _ e) (OdAll.same s a) (OdAll.same s b)
theorem OdAll.same {H H' : Hp} (s : Same H H') : ∀ {vs : List V} {ds : List PyData}, OdAll H vs ds → OdAll H' vs ds
  | _, _, .nil => .nil
  | _, _, .cons a b => .cons (Od.same s a) (OdAll.same s b)
end
mutual
theorem Od.dq {K : PySem.W.Frag} {H : Hp} : ∀ {v : V} {d : PyData}, Od H v d → Dq K H v d
  | _, _, .non => .non
  | _, _, .bl b => .bl b
  | _, _, .int i => .int i
  | _, _, .str x => .str x
  | _, _, .lst e a => .lst (SqL.of e) (OdAll.dq a)
  | _, _, .tup e a => .tup (SqT.of e) (OdAll.dq a)
  | _, _, .dic e a b => .dic e (OdAll.dq a) (OdAll.dq b)
theorem OdAll.dq {K : PySem.W.Frag} {H : Hp} : ∀ {vs : List V} {ds : List PyData}, OdAll H vs ds → DqAll K H vs ds
  | _, _, .nil => .nil
  | _, _, .cons a b => .cons (Od.dq a) (OdAll.dq b)
end
theorem OdAll.len {H : Hp} : ∀ {vs : List V} {ds : List PyData}, OdAll H vs ds → vs.length = ds.length
  | _, _, .nil => rfl
  | _, _, .cons _ b => congrArg (· + 1) (OdAll.len b)
def tyD : PyData → String
  | .none => "NoneType"
  | .bool _ => "bool"
  | .int _ => "int"
  | .str _ => "str"
  | .list _ => "list"
  | .tuple _ => "tuple"
  | .dict _ => "dict"
theorem Od.ty {K : PySem.W.Frag} {H : Hp} {v : V} {d : PyData} (h : Od H v d) : TyX K H v (.type (tyD d)) := by
  cases h with
  | non => exact .base .non
  | bl b => exact .base (.bl b)
  | int i => exact .base (.int i)
  | str x => exact .base (.str x)
  | lst e _ => exact .base (.lst e)
  | tup e _ => exact .base (.tup e)
  | dic e _ _ => exact .base (.dK e)
def isIntD : PyData → Bool
  | .bool _ => true
  | .int _ => true
  | _ => false
def isBoolD : PyData → Bool
  | .bool _ => true
  | _ => false
def isStrD : PyData → Bool
  | .str _ => true
  | _ => false
def isTupD : PyData → Bool
  | .tuple _ => true
  | _ => false
theorem kInt {K : PySem.W.Frag} (d : PyData) : PySem.W.kitOne K (.type (tyD d)) (.type "int") = some (isIntD d) := by
  cases d <;> (refine kit_ty ?_; simp only [tyD, isIntD]; decide +kernel)
theorem kBool {K : PySem.W.Frag} (d : PyData) : PySem.W.kitOne K (.type (tyD d)) (.type "bool") = some (isBoolD d) := by
  cases d <;> (refine kit_ty ?_; simp only [tyD, isBoolD]; decide +kernel)
theorem kStr {K : PySem.W.Frag} (d : PyData) : PySem.W.kitOne K (.type (tyD d)) (.type "str") = some (isStrD d) := by
  cases d <;> (refine kit_ty ?_; simp only [tyD, isStrD]; decide +kernel)
theorem kTup {K : PySem.W.Frag} (d : PyData) : PySem.W.kitOne K (.type (tyD d)) (.type "tuple") = some (isTupD d) := by
  cases d <;> (refine kit_ty ?_; simp only [tyD, isTupD]; decide +kernel)
def wholeD : PyData → Bool
  | .int _ => true
  | _ => false
def spWhole : Sp := fun vs H Q _ => ∃ v d, vs = [v] ∧ Od H v d ∧ Q (.bl (wholeD d)) H
def betwD (d : PyData) (lo hi : Int) : Bool := match d with
  | .int n => decide (lo ≤ n) && decide (n ≤ hi)
  | _ => false
def spBetw : Sp := fun vs H Q _ => ∃ v d lo hi, vs = [v, .int lo, .int hi] ∧ Od H v d ∧ Q (.bl (betwD d lo hi)) H
def rowD (d : PyData) (lo hi : Int) : Bool := match d with
  | .tuple ds => decide (lo ≤ (ds.length : Nat)) && decide (((ds.length : Nat) : Int) ≤ hi)
  | _ => false
def spRow : Sp := fun vs H Q _ => ∃ v d lo hi, vs = [v, .int lo, .int hi] ∧ Od H v d ∧ Q (.bl (rowD d lo hi)) H

/-! ### tables -/
def Tb (ps : List Addr) (H : Hp) : Prop := ∀ p ∈ ps, TabG H p
/-- but for the tables all is as it was -/
def UpL (ps : List Addr) (H H' : Hp) : Prop := Tb ps H' ∧ ∀ b, b ∉ ps → ∀ o, H b = some o → H' b = some o
def Stay (H H' : Hp) : Prop := ∀ a o, H a = some o → (∀ ps, o ≠ .tbl ps) → H' a = some o
theorem tabG_same {H H1 : Hp} {p : Addr} (h : TabG H p) (s : Same H H1) : TabG H1 p := let ⟨ps, a, b⟩ := h; ⟨ps, s _ _ a, b⟩
theorem tabG_tab {H H1 : Hp} {p q : Addr} (h : TabG H q) (t : Tabbed p H H1) : TabG H1 q := by
  by_cases e : q = p
  · rw [e]
    exact t.1
  · obtain ⟨ps, a, b⟩ := h
    exact ⟨ps, (t.2 _ e).trans a, b⟩
section
variable {ps : List Addr} {H H1 H2 : Hp}
theorem Tb.same (h : Tb ps H) (s : Same H H1) : Tb ps H1 := fun p hp => tabG_same (h p hp) s
theorem UpL.refl (h : Tb ps H) : UpL ps H H := ⟨h, fun _ _ _ e => e⟩
theorem UpL.trans (a : UpL ps H H1) (b : UpL ps H1 H2) : UpL ps H H2 := ⟨b.1, fun x n o e => b.2 x n o (a.2 x n o e)⟩
theorem UpL.same (h : Tb ps H) (s : Same H H1) : UpL ps H H1 := ⟨h.same s, fun x _ o e => s x o e⟩
theorem UpL.tab {p : Addr} (h : Tb ps H) (t : Tabbed p H H1) (hp : p ∈ ps) : UpL ps H H1 := ⟨fun q hq => tabG_tab (h q hq) t, fun x n o e => (t.2 x (fun z => n (z ▸ hp))).trans e⟩
theorem UpL.stay (h : Tb ps H) (u : UpL ps H H1) : Stay H H1 := fun a o e n => by
  refine u.2 a (fun z => ?_) o e
  obtain ⟨p1, e1, _⟩ := h a z
  rw [e1] at e
  exact n _ (Option.some.inj e).symm
theorem UpL.put {D : Addr} {xs ys : List V} (u : UpL ps H H1) (n : H D = none) (e : H1 D = some (.lst xs)) : UpL ps H (upd H1 D (.lst ys)) := by
  refine ⟨fun p hp => ?_, fun x m o q => ?_⟩
  · obtain ⟨qs, e1, t⟩ := u.1 p hp
    refine ⟨qs, (upd_ne fun z => ?_).trans e1, t⟩
    rw [z, e] at e1
    cases e1
  · rw [upd_ne (ne_of_none q n)]
    exact u.2 x m o q
end
mutual
theorem Od.stay {H H' : Hp} (s : Stay H H') : ∀ {v : V} {d : PyData}, Od H v d → Od H' v d
  | _, _, .non => .non
  | _, _, .bl b => .bl b
  | _, _, .int i => .int i
  | _, _, .str x => .str x
  | _, _, .lst e a => .lst (s _ _ e (fun _ q => nomatch q)) (OdAll.stay s a)
  | _, _, .tup e a => .tup (s _ _ e (fun _ q => nomatch q)) (OdAll.stay s a)
  | _, _, .dic e a b => .dic (s _ _ e (fun _ q => nomatch q)) (OdAll.stay s a) (OdAll.stay s b)
theorem OdAll.stay {H H' : Hp} (s : Stay H H') : ∀ {vs : List V} {ds : List PyData}, OdAll H vs ds → OdAll H' vs ds
  | _, _, .nil => .nil
  | _, _, .cons a b => .cons (Od.stay s a) (OdAll.stay s b)
end
theorem cutV_to (xs : List V) (n : Nat) : cutV xs none (some (n : Int)) = xs.take n := by
  unfold cutV
  rw [HT.sIx_none, HT.sIx_nat, List.drop_zero, Nat.sub_zero]
  by_cases h : n ≤ xs.length
  · rw [Nat.min_eq_left h]
  · rw [Nat.min_eq_right (by omega), List.take_of_length_le (Nat.le_refl _), List.take_of_length_le (by omega)]
theorem cutV_from (xs : List V) (n : Nat) : cutV xs (some (n : Int)) none = xs.drop n := by
  unfold cutV
  rw [HT.sIx_none, HT.sIx_nat]
  by_cases h : n ≤ xs.length
  · rw [Nat.min_eq_left h]
    exact List.take_of_length_le (by rw [List.length_drop]; exact Nat.le_refl _)
  · rw [Nat.min_eq_right (by omega), List.drop_of_length_le (Nat.le_refl _), List.drop_of_length_le (by omega), List.take_nil]
theorem OdAll.take {H : Hp} : ∀ {vs : List V} {ds : List PyData} (n : Nat), OdAll H vs ds → OdAll H (vs.take n) (ds.take n)
  | _, _, 0, _ => by rw [List.take_zero, List.take_zero]; exact .nil
  | _, _, n + 1, .nil => by rw [List.take_nil, List.take_nil]; exact .nil
  | _, _, n + 1, .cons a b => .cons a (OdAll.take n b)
theorem OdAll.drop {H : Hp} : ∀ {vs : List V} {ds : List PyData} (n : Nat), OdAll H vs ds → OdAll H (vs.drop n) (ds.drop n)
  | _, _, 0, h => h
  | _, _, n + 1, .nil => by rw [List.drop_nil, List.drop_nil]; exact .nil
  | _, _, n + 1, .cons a b => OdAll.drop n b
theorem OdAll.app {H : Hp} : ∀ {vs ws : List V} {ds es : List PyData}, OdAll H vs ds → OdAll H ws es → OdAll H (vs ++ ws) (ds ++ es)
  | _, _, _, _, .nil, h => h
  | _, _, _, _, .cons a b, h => .cons a (OdAll.app b h)
/-- the heap without some addresses -/
def hide (H : Hp) (ls : List Addr) : Hp := fun a => if a ∈ ls then none else H a
theorem hide_same (H : Hp) (ls : List Addr) : Same (hide H ls) H := fun a o e => by
  unfold hide at e
  split at e
  · cases e
  · exact e
theorem same_hide {H H' : Hp} (ls : List Addr) (s : Same H H') : Same (hide H ls) (hide H' ls) := fun a o e => by
  unfold hide at e ⊢
  split at e
  · cases e
  · rename_i n
    rw [if_neg n]
    exact s _ _ e
theorem hide_at {H : Hp} {ls : List Addr} {a : Addr} {o : HO} (e : H a = some o) (n : a ∉ ls) : hide H ls a = some o := by
  unfold hide
  rw [if_neg n]
  exact e
theorem not_hidden {H : Hp} {ls : List Addr} (h : ∀ l ∈ ls, H l ≠ none) {a : Addr} (e : H a = none) : a ∉ ls := fun q => h a q e
def Lit (te : TE) (d : PyData) : Prop := ∀ (ls : List Addr) (σ : L2.St) (H : Hp) (Q : VK), (∀ l ∈ ls, H l ≠ none) → (∀ v H', Same H H' → Od (hide H' ls) v d → Q v H') → te σ H Q
def Lits (ta : TA) (ds : List PyData) : Prop := ∀ (ls : List Addr) (σ : L2.St) (H : Hp) (Q : List V → Hp → Prop), (∀ l ∈ ls, H l ≠ none) → (∀ vs H', Same H H' → OdAll (hide H' ls) vs ds → Q vs H') → ta σ H Q
theorem keep_ls {H H' : Hp} {ls : List Addr} (h : ∀ l ∈ ls, H l ≠ none) (s : Same H H') : ∀ l ∈ ls, H' l ≠ none := fun l hl q => by
  cases e : H l with
  | none => exact h l hl e
  | some o => rw [s _ _ e] at q; cases q
theorem lit_int (i : Int) : Lit (tC (.int i)) (.int i) := fun _ _ _ _ _ k => k _ _ (.refl _) (.int i)
theorem lit_str (x : Str) : Lit (tC (.str x)) (.str x) := fun _ _ _ _ _ k => k _ _ (.refl _) (.str x)
theorem lit_bl (b : Bool) : Lit (tC (.bl b)) (.bool b) := fun _ _ _ _ _ k => k _ _ (.refl _) (.bl b)
theorem lit_non : Lit (tC .non) .none := fun _ _ _ _ _ k => k _ _ (.refl _) .non
theorem lits_nil : Lits tNil [] := fun _ _ _ _ _ k => k _ _ (.refl _) .nil
theorem lits_cons {te : TE} {ta : TA} {d : PyData} {ds : List PyData} (h1 : Lit te d) (h2 : Lits ta ds) : Lits (tCons te ta) (d :: ds) := fun ls σ H Q hl k =>
  h1 ls σ H _ hl fun v H1 s1 o1 => h2 ls σ H1 _ (keep_ls hl s1) fun vs H2 s2 o2 => k _ _ (s1.trans s2) (.cons (o1.same (same_hide ls s2)) o2)
theorem lit_tup {ta : TA} {ds : List PyData} (h : Lits ta ds) (n : ds.length ≤ 60) : Lit (tTup ta) (.tuple ds) := fun ls σ H Q hl k =>
  h ls σ H _ hl fun vs H1 s1 o1 => ⟨by have := o1.len; have mz : 5000 ≤ sizeLine := by decide
                                       omega, fun p hp => k _ _ (s1.trans (same_upd hp)) (.tup (hide_at upd_same (not_hidden (keep_ls hl s1) hp)) (o1.same (same_hide ls (same_upd hp))))⟩
theorem lit_lst {ta : TA} {ds : List PyData} (h : Lits ta ds) (n : ds.length ≤ 60) : Lit (tLst ta) (.list ds) := fun ls σ H Q hl k =>
  h ls σ H _ hl fun vs H1 s1 o1 => ⟨by have := o1.len; have mz : 5000 ≤ sizeLine := by decide
                                       omega, fun p hp => k _ _ (s1.trans (same_upd hp)) (.lst (hide_at upd_same (not_hidden (keep_ls hl s1) hp)) (o1.same (same_hide ls (same_upd hp))))⟩
theorem lit_d0 : Lit tDNewK (.dict []) := fun ls σ H Q hl k p hp => k _ _ (same_upd hp) (.dic (hide_at upd_same (not_hidden hl hp)) .nil .nil)
theorem lit_dx : Lit (tDisp [(tC (.str "x"), tC (.int 1))]) (.dict [(.str "x", .int 1)]) := fun ls σ H Q hl k p hp => by
  refine ⟨upd_same, [(Sum.inr "x", .int 1)], rfl, by decide, ?_⟩
  have e : upd (upd H p (.dK [])) p (.dK (mergeK [] [(Sum.inr "x", .int 1)])) = upd H p (.dK [(Sum.inr "x", .int 1)]) := by
    funext b
    unfold upd
    by_cases h : b = p <;> simp [h] <;> rfl
  rw [e]
  exact k _ _ (same_upd hp) (.dic (hide_at upd_same (not_hidden hl hp)) (.cons (.str _) .nil) (.cons (.int _) .nil))

def hasOne (i : Int) : List PyData → Bool
  | [] => false
  | .int j :: l => (j == i) || hasOne i l
  | _ :: l => hasOne i l
/-- one thing told of any value -/
def spD (ps : List Addr) (dom : PyData → Prop) (f : PyData → Bool) : Sp := fun vs H Q _ => ∃ v d, vs = [v] ∧ Od H v d ∧ dom d ∧ Tb ps H ∧ ∀ H', UpL ps H H' → Q (.bl (f d)) H'
end Gr

set_option Elab.async false
set_option maxRecDepth 100000
set_option maxHeartbeats 4000000
set_option linter.all false
/-! Ours: enumerate over a tuple; a promise with less asked. -/
namespace Gr
open PySem PySem.Spec PyProof.Rows L2 GxR
theorem fn_imp {P : Program} {w : World} {K : PySem.W.Frag} {mg : Str → Option Value} {base : Heap} {CX : CXT} {k : Nat} {f : Addr} {fd : FuncData} {ps : List Str} {sp sp' : Sp} (F : FnOk P w K mg base CX k f fd ps sp) (h : ∀ vs H Q E, sp' vs H Q E → sp vs H Q E) : FnOk P w K mg base CX k f fd ps sp' :=
  ⟨fun vs H Q E q => F.len vs H Q E (h _ _ _ _ q), fun A outer s H args us vs Q E hr e b r q => F.run A outer s H args us vs Q E hr e b r (h _ _ _ _ q)⟩
set_option maxHeartbeats 1000000 in
theorem enum_new1 {v : Value} {o : Obj} {G : Heap → Prop} (B : Begins v o G) :
    Meets (Builtin.«enumerate.__new__» ⟨[.type "enumerate", v], []⟩) (fun _ R z => G z.heap ∧
      R (.ok (.ret (.ref (z.heap.push o).objs.size))) { z with heap := (z.heap.push o).push { cls := .type "enumerate", data := .fields #[.none, .bool false, .ref z.heap.objs.size, rawInt 0, .none, .none] } }) :=
  .of_wp fun prog w A R z hh => by
    obtain ⟨hp, gg, dd, tk, oo⟩ := z
    obtain ⟨g1, rr⟩ := hh
    have sb := sub_enumerate
    have go : ∀ {A1 : Around} {E1 : Value → Shared → Prop} {Q1 : Value → Shared → Prop}, Q1 (.ref hp.objs.size) ⟨hp.push o, gg, dd, tk, oo⟩ → wpAny (model prog w) A1 (pyIter v) Q1 E1 ⟨hp, gg, dd, tk, oo⟩ := fun q => B.iter prog w _ _ ⟨hp, gg, dd, tk, oo⟩ _ g1 q
    wp_walk using go
    refine wpAny_stack_any fun _ => wpAny_pure ?_
    split
    · rename_i cc _ _ _ _ _
      cases (cc == Value.type "enumerate") <;> (wp_walk using go; exact ⟨_, rfl, rr⟩)
    · wp_walk using go
      exact ⟨_, rfl, rr⟩
theorem enum_call1 {prog : Program} {w : World} {A : Around} {E : Value → Shared → Prop} {z : Shared} {v : Value} {o : Obj} {G : Heap → Prop} {Q : Value → Shared → Prop} (B : Begins v o G) (g1 : G z.heap)
    (hQ : ∀ h', IsEnum h' (z.heap.objs.size + 1) z.heap.objs.size 0 .none → h'.get? z.heap.objs.size = some o → (∀ b u, z.heap.get? b = some u → h'.get? b = some u) → Q (.ref (z.heap.objs.size + 1)) { z with heap := h' }) :
    wpAny (model prog w) A (call (.type "enumerate") [v]) Q E z := by
  have e1 : (z.heap.push o).objs.size = z.heap.objs.size + 1 := Heap.size_push ..
  refine callType_new F.called_enumerate (by decide) (F.typeCall_enumerate_1 _) (F.newCall_enumerate_1 _) (fun ob => F.args_object_init_2 ob _) F.entry_enumerate_new (enum_new1 B) ⟨g1, ?_⟩
  show _ ∧ _
  rw [e1]
  have e2 := Heap.get?_push_size (z.heap.push o) (o := { cls := .type "enumerate", data := .fields #[.none, .bool false, .ref z.heap.objs.size, rawInt 0, .none, .none] }) rfl
  rw [e1] at e2
  exact ⟨⟨_, e2, rfl⟩, hQ _ e2 (Heap.get?_push_of_some _ (Heap.get?_push_size _ B.free)) fun b u q => Heap.get?_push_of_some _ (Heap.get?_push_of_some _ q)⟩
/-- pairs (i, the item at i) of a tuple, each a new one -/
def Itp (K : PySem.W.Frag) (a : Addr) (xs : List V) : It := ⟨fun i H => SqT K H a xs ∧ i < xs.length, fun i H v H' => ∃ T x, v = .ref T ∧ H T = none ∧ H' = upd H T (.tup [.int (i : Nat), x]) ∧ xs[i]? = some x, fun i H => SqT K H a xs ∧ xs.length = i⟩
def YTp (xs : List V) : Nat → Hp → V → Hp → Prop := fun i H v H' => ∃ T x, v = .ref T ∧ H T = none ∧ H' = upd H T (.tup [.int (i : Nat), x]) ∧ xs[i]? = some x
theorem walk_tp {K : PySem.W.Frag} {a : Addr} {xs : List V} : Walk (Itp K a xs) xs.length (fun H => SqT K H a xs) (YTp xs) :=
  ⟨fun _ _ hi q => ⟨q, hi⟩, fun _ q => ⟨q, rfl⟩, fun _ _ _ _ _ _ y => y⟩
theorem turn_tp {P : Program} {w : World} {K : PySem.W.Frag} {elts : List Expr} {kk : Nat} {tpos : Pos} {e it a : Addr} {xs : List V} :
    Turn P w K (.Tuple elts kk tpos) (Itp K a xs) [e, it] e (fun i h => (∃ old, IsEnum h e it ((i : Nat) : Int) old) ∧ h.IsTupleIter it a i ∧ e ≠ it ∧ a ≠ it ∧ a ≠ e) where
  mem := List.mem_cons_self
  obj := by
    rintro i h ⟨⟨old, he⟩, ⟨o, ho, hc, hd⟩, _⟩ b hb
    rcases List.mem_cons.mp hb with z | z
    · rw [z]
      exact ⟨_, he, fun v q => nomatch q⟩
    · rw [List.mem_singleton.mp z]
      exact ⟨o, ho, fun v q => by rw [hd] at q; cases q⟩
  keep := by
    rintro i h h' ⟨⟨old, he⟩, ⟨o, ho, r⟩, ne⟩ k
    exact ⟨⟨old, k e (List.mem_cons_self) _ he⟩, ⟨o, k it (by simp) _ ho, r⟩, ne⟩
  item := by
    intro X hP hw hK hc i pins s σ H E I hf st hg
    subst hP hw hK
    obtain ⟨⟨old, he⟩, hit, ne, na, nae⟩ := st
    obtain ⟨hT0, hi⟩ := hg
    obtain ⟨its, rv, pl, hz0⟩ := I.tuple hT0
    have gx : xs[i]? = some xs[i] := List.getElem?_eq_getElem hi
    obtain ⟨uv, hu0, ru⟩ := paired_at rv gx
    have el : e < s.heap.objs.size := Heap.lt_size he
    have il : it < s.heap.objs.size := let ⟨_, q, _⟩ := hit; Heap.lt_size q
    have n1 : i < its.toArray.size := by rw [List.size_toArray, ← paired_len rv]; exact hi
    refine wpAny_pyNext_enum_itemC (Draws.tuple (A := X.A.in1) (I.ok.hd hc) it a na its.toArray) he ⟨hit, pl⟩ n1 ne (fun z => ?_) fun u h' tk hu ho hit' hT hz hk => ?_
    · rcases List.mem_cons.mp z with z | z
      · exact ne z
      · exact nae (List.mem_singleton.mp z).symm
    have eu : u = uv := by
      have : its[i]? = some u := (List.getElem?_toArray (xs := its) (i := i)).symm.trans hu
      rw [hu0] at this
      exact (Option.some.inj this).symm
    refine ⟨_, rfl, wpAny_letOwnedTupleGo_enum (s := { s with heap := h', toks := tk + 1 }) ho fun h'' he' sb => ?_⟩
    have nT : s.heap.objs.size ≠ e := Nat.ne_of_gt el
    have hT2 : h''.get? s.heap.objs.size = some { cls := .type "tuple", data := .seq #[.int ((i : Nat) : Int) tk, u] } := (sb.2 _ nT).trans hT
    have new : ObjOk X.prog X.w (upd H s.heap.objs.size (.tup [.int (i : Nat), xs[i]])) h'' s.heap.objs.size (.tup [.int (i : Nat), xs[i]]) :=
      ⟨by show 2 ≤ sizeLine; decide, _, .cons ⟨_, rfl⟩ (.cons (eu ▸ ru) .nil), ⟨_, hT2, rfl, _, rfl⟩⟩
    have I1 : Inv X pins σ (upd H s.heap.objs.size (.tup [.int (i : Nat), xs[i]])) { s with heap := h'', toks := tk + 1 } := by
      refine I.turnedNew (ch := [e, it]) (fun b ob hb q => ?_) hf (Nat.le_refl _) new
      have n1 : b ≠ e := fun z => hb (z ▸ List.mem_cons_self)
      have n2 : b ≠ it := fun z => hb (by rw [z]; exact List.mem_cons_of_mem _ List.mem_cons_self)
      exact (sb.2 b n1).trans (hk b ob n1 n2 q)
    refine ⟨.ref s.heap.objs.size, _, I1, rfl, ⟨_, _, rfl, I.hok.fresh (Nat.le_refl _), rfl, gx⟩, ⟨⟨u, ?_⟩, ?_, ne, na, nae⟩, fun b hb => ?_⟩
    · have q : ((i + 1 : Nat) : Int) = (i : Int) + 1 := by omega
      rw [q]
      exact he'
    · obtain ⟨o, q, r⟩ := hit'.1
      exact ⟨o, (sb.2 it (Ne.symm ne)).trans q, r⟩
    · have lb : b < s.heap.objs.size := by
        rcases List.mem_cons.mp hb with z | z
        · rw [z]
          exact el
        · rw [List.mem_singleton.mp z]
          exact il
      rw [upd_ne (Nat.ne_of_lt lb)]
      exact (hf b hb).1
  done := by
    intro X hP hw hK hc i pins s σ H E I hf st hg
    subst hP hw hK
    obtain ⟨⟨old, he⟩, hit, ne, na, nae⟩ := st
    obtain ⟨hT0, hi⟩ := hg
    subst hi
    obtain ⟨its, rv, pl, hz0⟩ := I.tuple hT0
    have D := Draws.tuple (prog := X.prog) (w := X.w) (A := X.A.in1) (I.ok.hd hc) it a na its.toArray
    have n1 : its.toArray.size = xs.length := by rw [List.size_toArray, ← paired_len rv]
    obtain ⟨f0, f1, f2, f3, f4, f5⟩ := hf it (by simp)
    rw [n1] at D
    exact wpAny_pyNext_enum_endD D he ⟨hit, pl⟩ fun h' eb => ⟨rfl, I.turned (t' := s.toks) (fun b o hb q => eb b o hb q) f0 f1 f3 f4 f5⟩
  self := fun A i s Q E ⟨⟨_, he⟩, _⟩ h => wpAny_pyIter_enum he h
/-- enumerate(e), e a tuple -/
def iEnumT (K : PySem.W.Frag) (ta : TA) : TI := fun σ H R => ta σ H fun vs H1 => ∃ a xs, vs = [.ref a] ∧ SqT K H1 a xs ∧ R (Itp K a xs) H1
theorem pi_enumT {X : Cx} {e : Expr} {ta : TA} {p pos tpos : Pos} {elts : List Expr} {kk : Nat} (hg : Gl X "enumerate") (hm : X.mg "enumerate" = none) (ha : PA X [e] ta) (hs : starEach [e] X.env = [(false, eval e X.env)] := by rfl) :
    PI X (.Tuple elts kk tpos) (.Call (.Name "enumerate" p) [e] [] pos) (iEnumT X.K ta) := by
  refine ⟨fun pins s σ H R I h => Call_ (ld_blt I hg hm boot_enumerate (PyProof.Rows.callWith_type1 (thn (ha.run pos pins s σ H _ I h) ?_) hs rfl))⟩
  rintro us s1 ⟨vs, H1, I1, r1, a, xs, rfl, hT0, q⟩
  obtain ⟨u, rfl, ru⟩ := vals1 r1
  cases ru
  obtain ⟨its, rv, pl, hz0⟩ := I1.tuple hT0
  have la : a < s1.heap.objs.size := let ⟨_, q, _⟩ := pl; Heap.lt_size q
  refine enum_call1 (begins_tuple a its.toArray) pl fun h' he ho hk => wpAny_pyIter_enum he ⟨_, [s1.heap.objs.size + 1, s1.heap.objs.size], _, _, H1, rfl, I1.kept (t' := s1.toks) hk, turn_tp (a := a) (xs := xs), ⟨⟨.none, he⟩, ⟨_, ho, rfl, rfl⟩, Nat.succ_ne_self _, Nat.ne_of_lt la, Nat.ne_of_lt (Nat.lt_succ_of_lt la)⟩, fun b hb => ?_, q⟩
  have lb : s1.heap.objs.size ≤ b := by
    rcases List.mem_cons.mp hb with z | z
    · rw [z]
      exact Nat.le_succ _
    · rw [List.mem_singleton.mp z]
      exact Nat.le_refl _
  exact I1.fpOk lb (I1.hok.fresh lb)
end Gr

set_option Elab.async false
set_option maxRecDepth 100000
set_option maxHeartbeats 4000000
set_option linter.all false
/-! Ours: max(numbers, default=k). -/
namespace Gr
open PySem PySem.Spec PyProof.Rows L2 GxR
def maxI (k : Int) : List Int → Int
  | [] => k
  | n :: ns => ns.foldl max n
theorem ints_reads {h : Heap} : ∀ {ns : List Int} {us : List Value}, Vals (ns.map V.int) us → ∃ as, ReadsAll h us (ns.map PyData.int) as
  | [], _, .nil => ⟨_, .nil⟩
  | n :: ns, _, .cons r t => by
    obtain ⟨tk, rfl⟩ := r
    obtain ⟨as, q⟩ := ints_reads (ns := ns) t
    exact ⟨_, .cons (.int n tk) q⟩
theorem ints_depth (ns : List Int) : PyData.depthAll (ns.map PyData.int) ≤ 2 := by
  induction ns with
  | nil => simp [PyData.depthAll]
  | cons n l ih =>
    simp only [List.map_cons, PyData.depthAll, PyData.depth]
    omega
theorem ints_alike (ns : List Int) : PySem.W.AlikeAll (ns.map PyData.int) := by
  refine ⟨fun x hx y hy => ?_, fun x hx => ?_⟩
  · obtain ⟨a, _, rfl⟩ := List.mem_map.mp hx
    obtain ⟨b, _, rfl⟩ := List.mem_map.mp hy
    rfl
  · obtain ⟨a, _, rfl⟩ := List.mem_map.mp hx
    exact fun z => nomatch z
def rMaxDef (K : PySem.W.Frag) : List V → List V → Hp → VK → Prop := fun vs zs H Q => ∃ (a : Addr) (ns : List Int) (k : Int), vs = [.ref a] ∧ zs = [.int k] ∧ SqL K H a (ns.map V.int) ∧ Q (.int (maxI k ns)) H
theorem call_maxDef {X : Cx} (hd : X.A.handled = none) (hu : X.A.units + 64 < cLine) : CallRK X (.builtin "max") [("default" : Str)] (rMaxDef X.K) := by
  intro pins s σ H xs zs us ws Q I rx rz h
  obtain ⟨a, ns, k, rfl, rfl, hS, q⟩ := h
  obtain ⟨u, rfl, ru⟩ := vals1 rx
  obtain ⟨uw, rfl, rw2⟩ := vals1 rz
  cases ru
  obtain ⟨t, rfl⟩ := rw2
  obtain ⟨its, rv, pl, hz⟩ := I.list hS
  obtain ⟨as, ra⟩ := ints_reads (h := s.heap) rv
  refine PySem.W.max_list_default (xs := ns.map PyData.int) (d := .int k t) hd pl.isList (by exact ra) (ints_alike ns) (by have := ints_depth ns; omega) (fun e h' tk hk => ?_) (fun y ys i v h' tk bs e hv hr hk => ?_)
  · cases ns with
    | nil => exact ⟨.int k, H, I.kept (t' := tk) hk, ⟨t, rfl⟩, q⟩
    | cons n l => cases e
  · cases ns with
    | nil => cases e
    | cons n l =>
      have e1 : y = .int n := (List.cons.inj e).1.symm
      have e2 : ys = l.map PyData.int := (List.cons.inj e).2.symm
      subst e1
      subst e2
      rw [PySem.W.maxD_ints] at hr
      cases hr
      exact ⟨.int _, H, I.kept (t' := tk) hk, ⟨_, rfl⟩, q⟩
end Gr

set_option Elab.async false
set_option maxRecDepth 100000
set_option maxHeartbeats 4000000
set_option linter.all false
/-! Ours: sum of a tuple of numbers; a walk within a comprehension. -/
namespace Gr
open PySem PySem.Spec PyProof.Rows L2 GxR
def rSumT (K : PySem.W.Frag) : List V → Hp → VK → Prop := fun vs H Q => ∃ (a : Addr) (ns : List Int), vs = [V.ref a] ∧ SqT K H a (ns.map V.int) ∧ Q (.int ns.sum) H
theorem cr_sumT {X : Cx} (hd : X.A.handled = none) : CallR X (.builtin "sum") (rSumT X.K) := by
  intro pins s σ H vs us Q I r h
  obtain ⟨a, ns, rfl, hT, q⟩ := h
  obtain ⟨its, rv, pl, _⟩ := I.tuple hT
  rw [Vals.ref1 r]
  have hI := rv.ints
  obtain ⟨zs, ez⟩ := hI.allInts.items
  have en : numsOf its.toArray.toList = ns := by rw [show its.toArray.toList = its from rfl]; exact hI.numsOf
  rw [ez] at pl en
  rw [nums_intItems] at en
  refine PySem.W.ktm_sumG hd pl fun h' tk t' hk => ?_
  rw [preSum_eq, List.take_of_length_le (by simp), en]
  exact ⟨.int _, H, I.kept hk, ⟨_, rfl⟩, q⟩
/-- a walk's turns, the body told by what it goes on to -/
theorem lp_it {J : It} {n : Nat} {G : Hp → Prop} {Y : Nat → Hp → V → Hp → Prop} (w : Walk J n G Y) {H0 : Hp} {Stop : Hp → Prop} {body : V → Hp → (Hp → Prop) → Prop} (Pv : Nat → Hp → Prop) (h0 : Pv 0 H0) (hG : ∀ i H, i ≤ n → Pv i H → G H)
    (hs : ∀ i x H H', i < n → Pv i H → Y i H x H' → body x H' (Pv (i + 1))) (hd : ∀ H, Pv n H → Stop H) :
    ∃ W : Nat → Nat → Hp → Prop, (∃ m, W 0 m H0) ∧ ∀ i m H, W i m H → (J.stop i H ∧ Stop H) ∨ (J.go i H ∧ ∃ N : Hp → Prop, (∀ H', N H' → ∃ m', m' < m ∧ W (i + 1) m' H') ∧ ∀ x H', J.yld i H x H' → body x H' N) := by
  refine ⟨fun i m H => m = n - i ∧ i ≤ n ∧ Pv i H, ⟨n, by simp, Nat.zero_le _, h0⟩, ?_⟩
  rintro i m H ⟨rfl, le, p⟩
  by_cases lt : i < n
  · exact .inr ⟨w.goes i H lt (hG i H le p), Pv (i + 1), fun H' p' => ⟨n - (i + 1), by omega, rfl, lt, p'⟩, fun x H' y => hs i x H H' lt p (w.yields i H x H' lt (hG i H le p) y)⟩
  · have e : i = n := by omega
    subst e
    exact .inl ⟨w.stops H (hG _ H le p), hd H p⟩
end Gr

set_option Elab.async false
set_option linter.all false
set_option maxRecDepth 100000
set_option maxHeartbeats 4000000
/-! Ours: a tuple times any small number, 0 and 1 among them. -/
namespace Gr
open PySem PySem.Spec PyProof.Rows L2
theorem tuple_mul1 (l : Addr) (items : Array Value) (n : Nat) (dd : Option Addr) (sl : Array (Option Value)) (u : Tok) :
    Meets (Builtin.«tuple.__mul__» ⟨[.ref l, .int 1 u], []⟩) (fun _ R s => s.heap.get? l = some { cls := .type "tuple", dict := dd, data := .seq items n, slots := sl } ∧
      R (.ok (.ret (Value.ref l))) s) :=
  .of_wp fun prog w A R s h => by
    obtain ⟨hp, g, d, tk, os⟩ := s
    obtain ⟨hl, h⟩ := h
    have f1 := AutoSeq1.idx_int
    wp_walk using wpAny_loadPart' hl
    exact ⟨_, rfl, h⟩
theorem tuple_mul0 (l : Addr) (items : Array Value) (n : Nat) (dd : Option Addr) (sl : Array (Option Value)) (u : Tok) (hi : items.isEmpty = false) :
    Meets (Builtin.«tuple.__mul__» ⟨[.ref l, .int 0 u], []⟩) (fun _ R s => s.heap.get? l = some { cls := .type "tuple", dict := dd, data := .seq items n, slots := sl } ∧
      R (.ok (.ret (Value.ref s.heap.objs.size))) { s with heap := s.heap.push { cls := Value.type "tuple", data := Data.seq #[] }, toks := s.toks }) :=
  .of_wp fun prog w A R s h => by
    obtain ⟨hp, g, d, tk, os⟩ := s
    obtain ⟨hl, h⟩ := h
    have f1 := AutoSeq1.idx_int
    wp_walk using wpAny_loadPart' hl
    exact ⟨_, rfl, h⟩
def rRepA (K : PySem.W.Frag) : R2 := fun x y H Q => ∃ l k xs, x = .ref l ∧ y = .int k ∧ SqT K H l xs ∧ xs ≠ [] ∧ 0 ≤ k ∧ k ≤ 1000 ∧ xs.length ≤ 1000 ∧ (k = 1 → Q (.ref l) H) ∧ (k ≠ 1 → ∀ p, H p = none → Q (.ref p) (upd H p (.tup (List.replicate k.toNat xs).flatten)))
section
variable {X : Cx}
theorem op_repA : OpR X (binaryOp .Mult) (rRepA X.K) := by
  intro pins s σ H x y v u Q I rx ry h
  obtain ⟨l, k, xs, rfl, rfl, hT, hne, h1, h2, hz, q1, q2⟩ := h
  by_cases h2k : 2 ≤ k
  · exact op_repT pins s σ H _ _ v u Q I rx ry ⟨l, k, xs, rfl, rfl, hT, hne, h2k, h2, hz, q2 (by omega)⟩
  cases rx
  obtain ⟨t, rfl⟩ := ry
  obtain ⟨its, r, ⟨⟨cls, dd, data, sl⟩, ho, hc, n, hd⟩, hs⟩ := I.tuple hT
  simp only at hc hd
  subst hc hd
  have hle : its.length = xs.length := r.length.symm
  have hn : its ≠ [] := fun e => hne (by
    rw [e] at hle
    exact List.eq_nil_of_length_eq_zero hle.symm)
  have hi : its.toArray.isEmpty = false := by
    cases its with
    | nil => exact absurd rfl hn
    | cons a b => rfl
  by_cases k1 : k = 1
  · subst k1
    refine wpAny_binaryOp_repeat_ref (T := "tuple") (U := "int") (by decide) ⟨_, ho, rfl⟩ (fun s' => typeIs_int s' 1 t) noFill_tuple_mul F.fills_int_mul F.slot_int_rmul repeat_tuple F.slot_int_index.lookup
      (call_meets F.slot_int_rmul (typeIs_int s 1 t) F.entry_int_rmul (F.args_int_rmul_2 _ _) (int_rmul_tuple 1 t l its.toArray n dd sl)
        ⟨ho, rfl, ⟨_, ho, rfl⟩, call_meets F.slot_tuple_mul ⟨_, ho, rfl⟩ F.entry_tuple_mul (F.args_tuple_mul_2 _ _) (tuple_mul1 l its.toArray n dd sl t) ⟨ho, ?_⟩⟩)
    exact ⟨.ref l, H, I, rfl, q1 rfl⟩
  · have k0 : k = 0 := by omega
    subst k0
    refine wpAny_binaryOp_repeat_ref (T := "tuple") (U := "int") (by decide) ⟨_, ho, rfl⟩ (fun s' => typeIs_int s' 0 t) noFill_tuple_mul F.fills_int_mul F.slot_int_rmul repeat_tuple F.slot_int_index.lookup
      (call_meets F.slot_int_rmul (typeIs_int s 0 t) F.entry_int_rmul (F.args_int_rmul_2 _ _) (int_rmul_tuple 0 t l its.toArray n dd sl)
        ⟨ho, rfl, ⟨_, ho, rfl⟩, call_meets F.slot_tuple_mul ⟨_, ho, rfl⟩ F.entry_tuple_mul (F.args_tuple_mul_2 _ _) (tuple_mul0 l its.toArray n dd sl t hi) ⟨ho, ?_⟩⟩)
    refine ⟨.ref s.heap.objs.size, _, I.laid (t' := s.toks) (o := .tup []) (fun b ob q => Heap.get?_push_of_some _ q) (Nat.le_refl _) ?_, rfl, q2 (by decide) _ (I.hok.fresh (Nat.le_refl _))⟩
    exact ⟨Nat.zero_le _, _, .nil, IsTup.new _ _⟩
end
end Gr

set_option Elab.async false
set_option linter.all false
set_option maxRecDepth 100000
set_option maxHeartbeats 4000000
/-! Ours: a tuple == (). -/
namespace Gr
open PySem PySem.Spec PyProof.Rows L2
def rEqT0 (K : PySem.W.Frag) : R2 := fun x y H Q => ∃ a b xs, x = .ref a ∧ y = .ref b ∧ SqT K H a xs ∧ SqT K H b [] ∧ Q (.bl (decide (xs.length = 0))) H
section
variable {X : Cx}
theorem op_eqT0 (hu : X.A.units + 64 < cLine) : OpR X (compareOp .Eq) (rEqT0 X.K) := by
  intro pins s σ H x y v u Q I rx ry h
  obtain ⟨a, b, xs, rfl, rfl, ha, hb, q⟩ := h
  cases rx
  cases ry
  obtain ⟨its, r1, p1, _⟩ := I.tuple ha
  obtain ⟨its2, r2, p2, _⟩ := I.tuple hb
  cases r2
  refine SeqAt.eq_tupleAt (e := fun _ => true) p1 p2 (by omega) (fun j h1 h2 => absurd h2 (Nat.not_lt_zero _)) ⟨.bl _, H, I, rfl, ?_⟩
  have e : ((List.range (min its.toArray.size ([] : List Value).toArray.size)).all (fun _ => true) && its.toArray.size == ([] : List Value).toArray.size) = decide (xs.length = 0) := by
    rw [r1.length, List.size_toArray]
    cases its with
    | nil => rfl
    | cons a l =>
      show (_ && (((a :: l).length) == 0)) = _
      simp
  rw [e]
  exact q
end
end Gr

set_option Elab.async false
set_option maxRecDepth 100000
set_option maxHeartbeats 2000000
set_option linter.all false
/-! Ours: all(.. for a, b in e), e a tuple of pairs of data, over a quiet element that reads captured names of the def. -/
namespace Gr
open PySem PySem.Spec PyProof.Rows L2 GxR
theorem letGo_tupleiter {prog : Program} {w : World} {A : Around} {E : Value → Shared → Prop} {s : Shared} {elts : List Expr} {x1} {pos : Pos} {I l T : Addr} {i : Nat} {Q : Unit → Shared → Prop} (hit : s.heap.IsTupleIter I l i) (hQ : Q () s) :
    wpAny (model prog w) A (letOwnedTupleGo (.Tuple elts x1 pos) (.ref I) (.ref T)) Q E s := by
  obtain ⟨o, ho, hc, hd⟩ := hit
  unfold letOwnedTupleGo
  refine wpAny_bind (wpAny_load ho ?_)
  rw [hc, hd]
  show wpAny _ A (if (["enumerate", "zip", "dict_itemiterator", "dict_reverseitemiterator", "odict_iterator", "itertools.zip_longest", "itertools.pairwise"].contains "tuple_iterator" &&
      (#[.ref l, .int i 0] : Array Value)[0]? == some (rawInt T)) = true then _ else _) Q E s
  rw [if_neg (by
    intro h
    rw [show (["enumerate", "zip", "dict_itemiterator", "dict_reverseitemiterator", "odict_iterator", "itertools.zip_longest", "itertools.pairwise"].contains "tuple_iterator") = false from by decide, Bool.false_and] at h
    cases h)]
  exact wpAny_pure hQ
theorem walks_tt {prog : Program} {w : World} {A : Around} (hh : A.handled = none) (I ax : Addr) (hne : ax ≠ I) (items : Array Value) (Ts : Nat → Addr) (vals : Nat → Array Value)
    (hit : ∀ j, j < items.size → items[j]? = some (.ref (Ts j))) (hTI : ∀ j, j < items.size → Ts j ≠ I) :
    WalksU prog w A I (I :: ax :: (List.range items.size).map Ts) [I] items.size (fun j v => j < items.size ∧ v = vals j)
      (fun j h => h.IsTupleIter I ax j ∧ h.IsTuple ax items ∧ ∀ k, k < items.size → h.IsTuple (Ts k) (vals k))
      (fun j T h => (j < items.size ∧ T = Ts j) ∧ h.IsTupleIter I ax (j + 1) ∧ h.IsTuple ax items ∧ ∀ k, k < items.size → h.IsTuple (Ts k) (vals k)) where
  sub := fun b hb => by simp at hb; simp [hb]
  frame := fun _ _ _ st hk => ⟨st.1.at fun o e => hk I (by simp) o e, st.2.1.at fun o e => hk ax (by simp) o e,
    fun k hk' => (st.2.2 k hk').at fun o e => hk (Ts k) (List.mem_cons_of_mem _ (List.mem_cons_of_mem _ (List.mem_map.mpr ⟨k, List.mem_range.mpr hk', rfl⟩))) o e⟩
  item := fun i s Q E hi st hQ => by
    refine wpAny_pyNext_tuple_item st.1 st.2.1 (x := .ref (Ts i)) (hit i hi) fun h' hit' hs' => ?_
    have tup : ∀ k, k < items.size → h'.IsTuple (Ts k) (vals k) := fun k hk' => (st.2.2 k hk').extBut hs'.extBut (hTI k hk')
    exact hQ (Ts i) (vals i) h' s.toks ⟨hi, rfl⟩ (tup i hi) ⟨⟨hi, rfl⟩, hit', st.2.1.extBut hs'.extBut hne, tup⟩ fun b o hb e => hs'.extBut b o (fun h => hb (by simp [h])) e
  go := fun _ _ _ _ _ s Q _ hm hQ => letGo_tupleiter hm.2.1 (hQ s.heap hm.2 fun _ _ _ e => e)
  apart := fun j T _ hm hmem => by
    rcases List.mem_cons.mp hmem with e | e
    · exact hTI j hm.1.1 (hm.1.2 ▸ e)
    · cases e
  done := fun s Q E st hQ => wpAny_pyNext_tuple_end hh st.1 st.2.1 (by simp) fun h' he' => hQ h' s.toks fun b o hb e => he' b o (fun h => hb (by simp [h])) e
  self := fun _ _ _ _ st hQ => wpAny_pyIter_tupleiter st.1 hQ
/-- captured names and what they hold -/
inductive FrD (h : Heap) (cells : List (Str × Addr)) : List Str → List PyData → Prop
  | nil : FrD h cells [] []
  | cons {x : Str} {xs : List Str} {d : PyData} {ds : List PyData} {c : Addr} {u : Value} : cells.lookup x = some c → h.IsCell c (some u) → Vd h u d → szD d → FrD h cells xs ds → FrD h cells (x :: xs) (d :: ds)
inductive CapD (K : PySem.W.Frag) (H : Hp) (σ : L2.St) : List Nat → List PyData → Prop
  | nil : CapD K H σ [] []
  | cons {i : Nat} {is : List Nat} {v : V} {d : PyData} {ds : List PyData} : σ[i]? = some (some v) → Dq K H v d → CapD K H σ is ds → CapD K H σ (i :: is) (d :: ds)
def tw (q : PyData × PyData) : PyData := .tuple [q.1, q.2]
def EltTF (X : Cx) (k : Nat) (scope : Scope) (xa xb : Str) (xs : List Str) (elt : Expr) (dom : List PyData → PyData × PyData → Prop) (pb : List PyData → PyData × PyData → Bool) : Prop :=
  ∀ (en : Env) (m : Str → Option Value) (h0 : Heap) (va vb : Value) (q : PyData × PyData) (fd : List PyData), en.scope = scope → Qc X.K X.mg X.base en → m xa = some va → m xb = some vb → Vd h0 va q.1 → Vd h0 vb q.2 → FrD h0 en.cells xs fd → dom fd q → QE X.prog X.w X.base h0 k en m elt (.bool (pb fd q))
inductive CapN (X : Cx) (scope : Scope) : List Str → List Nat → Prop
  | nil : CapN X scope [] []
  | cons {x : Str} {xs : List Str} {i : Nat} {is : List Nat} : X.N[i]? = some x → X.env.kindOf x = some .cell → (x, NameKind.free) ∈ scope.names → CapN X scope xs is → CapN X scope (x :: xs) (i :: is)
structure GenTF (X : Cx) (scope : Scope) (xa xb : Str) (xs : List Str) (is : List Nat) : Prop where
  kind : scope.kind = .function
  co : scope.isCoroutine = false
  cell : ∀ y ∈ scope.names, y.2 ≠ .cell
  dot : scope.names.lookup (".0" : Str) = some NameKind.local
  la : scope.names.lookup xa = some .local
  lb : scope.names.lookup xb = some .local
  ab : xa ≠ xb
  free : ∀ y ∈ scope.names, y.2 = .free → ∃ c, X.env.cells.lookup y.1 = some c
  cap : CapN X scope xs is
section
variable {X : Cx} {pins : List (Addr × Obj)} {σ : L2.St} {H : Hp} {s : Shared}
theorem clo_lookup {cells : List (Str × Addr)} {names : List (Str × NameKind)} {x : Str} (hx : (x, NameKind.free) ∈ names) : (cloFrom cells names []).lookup x = some ((cells.lookup x).getD 0) := by
  obtain ⟨c', e'⟩ := mem_lookup (cloFrom_has (cells := cells) (acc := []) hx)
  rw [e']
  rcases cloFrom_mem (PySem.mem_of_lookup e') with h | h
  · cases h
  · rw [h.2]
theorem cap_fr {xs : List Str} {is : List Nat} {fd : List PyData} {scope : Scope} (I : Inv X pins σ H s) (h : CapN X scope xs is) (c : CapD X.K H σ is fd) :
    FrD s.heap (cloFrom X.env.cells scope.names []) xs fd := by
  induction h generalizing fd with
  | nil => cases c; exact .nil
  | cons n1 n2 n3 _ ih =>
    cases c with
    | cons e1 e2 e3 =>
      obtain ⟨m, _, hl⟩ := I.loc
      obtain ⟨u, ru, lk⟩ := hl _ _ _ n1 e1 (.inr (.inl n2))
      rcases lk with ⟨z, _⟩ | ⟨_, c, hc, hcell⟩
      · rw [n2] at z; cases z
      · obtain ⟨as, r, _⟩ := e2.reads I u ru
        refine .cons ?_ hcell ⟨as, r⟩ (Dq.sz I e2) (ih e3)
        rw [clo_lookup n3, hc]
        rfl
theorem FrD.but {h h' : Heap} {P : Addr} {ps : Array Value} (k : ∀ b o, b ≠ P → h.get? b = some o → h'.get? b = some o) (p0 : h.get? P = some { cls := .none, data := .fields ps }) {cells : List (Str × Addr)} {xs : List Str} {fd : List PyData} (f : FrD h cells xs fd) : FrD h' cells xs fd := by
  induction f with
  | nil => exact .nil
  | cons a b r z _ ih =>
    obtain ⟨o, e1, e2⟩ := b
    obtain ⟨as, r⟩ := r
    refine .cons a ⟨o, k _ _ (fun q => ?_) e1, e2⟩ ⟨as, reads_but k p0 rfl r⟩ z ih
    rw [q, p0] at e1
    cases e1
    cases e2
def pairB (f : PyData × PyData → Bool) : PyData → Bool
  | .tuple [a, b] => f (a, b)
  | _ => false
theorem pair_all {f : PyData × PyData → Bool} (l : List (PyData × PyData)) : (l.map tw).all (pairB f) = l.all f := by
  rw [List.all_map]
  rfl
theorem vd_two {h : Heap} {v : Value} {q : PyData × PyData} (r : Vd h v (tw q)) : ∃ T va vb, v = .ref T ∧ h.IsTuple T #[va, vb] ∧ Vd h va q.1 ∧ Vd h vb q.2 := by
  obtain ⟨t, its, rfl, ht, ha⟩ := vd_tup r
  obtain ⟨l⟩ := its
  cases ha with
  | cons a b => cases b with
    | cons b c => cases c; exact ⟨t, _, _, rfl, ht, a, b⟩
theorem genTF {c P : Addr} {elt iter : Expr} {xa xb : Str} {qa qb qt gpos : Pos} {kt : Nat} {scope : Scope} {xs : List Str} {is : List Nat} {dom : List PyData → PyData × PyData → Prop} {pb : List PyData → PyData × PyData → Bool} {te : TE} {k : Nat} {W : Value → Shared → Prop} {R : List (PyData × PyData) → List PyData → Hp → Prop}
    (hr : Room (k + 1) X.A) (TB : TabB X.base X.mg c P) (hcode : X.env.code = .ref c) (S : GenTF X scope xa xb xs is) (hi : PE X iter te) (hel : EltTF X k scope xa xb xs elt dom pb)
    (hs : ∀ v, genFold iter X.env v = pure v) (I : Inv X pins σ H s) (h : te σ H fun v H1 => ∃ pr fd, Dq X.K H1 v (.tuple (pr.map tw)) ∧ CapD X.K H1 σ is fd ∧ (∀ q ∈ pr, dom fd q) ∧ TabG H1 P ∧ R pr fd H1)
    (hQ : ∀ pr fd H1 g z, R pr fd H1 → ReadyD X pins σ H1 P (pr.map tw) (pairB (pb fd)) g z → W (.ref g) z) :
    wpAny (model X.prog X.w) X.A (eval (.GeneratorExp elt [⟨.Tuple [.Name xa qa, .Name xb qb] kt qt, iter, [], 0⟩] scope gpos) X.env) W X.xe s := by
  refine wpAny_GeneratorExp_walksQTD hr.hd S.co (closure_ok S.free) S.cell S.dot S.la S.lb S.ab S.kind hr.depth (thn (hi.run pins s σ H _ I h) ?_) hs
  rintro xv s1 ⟨v, H1, I1, r1, pr, fd, hd, hcap, hdom, ⟨ps, hP, ht⟩, q1⟩
  obtain ⟨asv, rv, _⟩ := hd.reads I1 xv r1
  obtain ⟨tt, its, rfl, hit, hva⟩ := vd_tup ⟨asv, rv⟩
  have hsz : its.size = pr.length := by rw [← List.length_map (f := tw), ← hva.len, Array.length_toList]
  have hfr := cap_fr I1 S.cap hcap
  have each : ∀ j, ∃ q : Addr × Value × Value, ∀ hj : j < pr.length, its[j]? = some (.ref q.1) ∧ s1.heap.IsTuple q.1 #[q.2.1, q.2.2] ∧ Vd s1.heap q.2.1 pr[j].1 ∧ Vd s1.heap q.2.2 pr[j].2 := by
    intro j
    by_cases hj : j < pr.length
    · obtain ⟨v', hv', rv'⟩ := hva.get (i := j) (d := tw pr[j]) (by rw [List.getElem?_map, List.getElem?_eq_getElem hj]; rfl)
      obtain ⟨T, va, vb, rfl, a1, a2, a3⟩ := vd_two rv'
      exact ⟨(T, va, vb), fun _ => ⟨by rw [← Array.getElem?_toList]; exact hv', a1, a2, a3⟩⟩
    · exact ⟨default, fun q => absurd q hj⟩
  obtain ⟨qf, hqf⟩ := Classical.axiomOfChoice each
  have tlt : tt < s1.heap.objs.size := let ⟨_, e, _⟩ := hit; Heap.lt_size e
  have qlt : ∀ j, j < its.size → (qf j).1 < s1.heap.objs.size := fun j hj => let ⟨_, ⟨_, e, _⟩, _⟩ := hqf j (by omega); Heap.lt_size e
  refine wpAny_pyIter_tuple hit ⟨I1.nolimit.push _, code_then I1 TB hcode hP ht fun cv h3 tk more up lt hp ht' lim => ?_⟩
  have p0 : s1.heap.get? P = some { cls := .none, data := .fields ps } := I1.hok P _ hP
  have pl : P < s1.heap.objs.size := Heap.lt_size p0
  have at1 : ∀ b, b ∈ [s1.heap.objs.size] → b = s1.heap.objs.size := fun b hb => List.mem_singleton.mp hb
  have cl : cStatics < s1.heap.objs.size := let ⟨_, n, _⟩ := I1.nolimit; n.lt
  have notP : ∀ {T its'}, s1.heap.IsTuple T its' → T ≠ P := fun {T its'} hT e => by
    obtain ⟨o, e1, e2, _⟩ := hT
    rw [e, p0] at e1
    cases e1
    cases e2
  have up0 : ∀ b u, b ≠ P → s1.heap.get? b = some u → h3.get? b = some u := fun b u n e => by
    exact up b u n (Heap.get?_push_of_some _ e)
  have tn : tt ≠ s1.heap.objs.size := Nat.ne_of_lt tlt
  refine ⟨s1.heap.objs.size, s1.heap.objs.size :: tt :: (List.range its.size).map (fun j => (qf j).1), [s1.heap.objs.size], its.size, _, _, _, fun _ => true, fun i y => ∃ d, (pr.map tw)[i]? = some d ∧ y = .bool (pairB (pb fd) d), rfl,
    fun A' hh => walks_tt hh _ _ tn its (fun j => (qf j).1) (fun j => #[(qf j).2.1, (qf j).2.2]) (fun j hj => (hqf j (by omega)).1) (fun j hj => Nat.ne_of_lt (qlt j hj)), fun i vals hv => ⟨_, _, hv.2⟩, ⟨⟨_, up _ _ (fun e => ?_) (Heap.get?_push_size _ rfl), rfl, rfl⟩, ?_, fun j hj => ?_⟩, fun b hb => ?_, lim, fun z => ?_, fun href hh => ?_, ?_⟩
  · rw [← e] at pl
    exact Nat.lt_irrefl _ pl
  · have nP := notP hit
    obtain ⟨o, e1, e2⟩ := hit
    exact ⟨o, up0 _ _ nP e1, e2⟩
  · have hT := (hqf j (by omega)).2.1
    have nP := notP hT
    obtain ⟨o, e1, e2⟩ := hT
    exact ⟨o, up0 _ _ nP e1, e2⟩
  · rcases List.mem_cons.mp hb with e | e
    · rw [e]; exact lt
    · rcases List.mem_cons.mp e with e | e
      · rw [e]
        exact Nat.lt_trans tlt lt
      · obtain ⟨j, hj, rfl⟩ := List.mem_map.mp e
        exact Nat.lt_trans (qlt j (List.mem_range.mp hj)) lt
  · rw [at1 _ z] at cl
    exact Nat.lt_irrefl _ cl
  · constructor
    · intro B E' i va vb z m _ _ _ _ _ _ _ _
      rw [List.forIn_nil]
      exact wpAny_pure ⟨rfl, keeps_refl _⟩
    · intro B E' i va vb z m hB hD hU hv _ hn hma hmb hk
      obtain ⟨hi1, hv⟩ := hv
      have hi2 : i < pr.length := by omega
      obtain ⟨_, _, rz1, rz2⟩ := hqf i hi2
      have ea : va = (qf i).2.1 := by
        have := congrArg (fun a : Array Value => a[0]?) hv
        exact Option.some.inj this
      have eb : vb = (qf i).2.2 := by
        have := congrArg (fun a : Array Value => a[1]?) hv
        exact Option.some.inj this
      have keepA : ∀ b o, b ≠ P → s1.heap.get? b = some o → z.heap.get? b = some o := fun b o nb e => by
        have lb : b < s1.heap.objs.size := Heap.lt_size e
        refine hk b (List.mem_range.mpr (Nat.lt_trans lb lt)) (fun q => ?_) _ (hh _ _ (up0 b o nb e))
        rw [at1 b q] at lb
        exact Nat.lt_irrefl _ lb
      have room : Room k B := ⟨hB, by have := hr.dp; omega, by have := hr.un; omega⟩
      have rq1 : Vd z.heap va pr[i].1 := by
        rw [ea]
        obtain ⟨as2, r2⟩ := rz1
        exact ⟨as2, reads_but keepA p0 rfl r2⟩
      have rq2 : Vd z.heap vb pr[i].2 := by
        rw [eb]
        obtain ⟨as2, r2⟩ := rz2
        exact ⟨as2, reads_but keepA p0 rfl r2⟩
      refine thn (hel _ m z.heap va vb pr[i] fd rfl ⟨I1.mod, S.kind, ?_, rfl⟩ hma hmb rq1 rq2 (hfr.but keepA p0) (hdom _ (List.getElem_mem hi2)) B E' z ⟨room, fun b o e => ?_, fun _ _ e => e, hn⟩) fun y z' r => ⟨⟨tw pr[i], by rw [List.getElem?_map, List.getElem?_eq_getElem hi2]; rfl, vd_bool r.1⟩, r.2⟩
      · exact I1.ok.glob
      · obtain ⟨e1, e2⟩ := I1.bs b o e
        exact keepA b o (fun q => by rw [q, hP] at e2; cases e2) e1
  · intro g h5 tk5 gs gb ag sz5 k5 W5 hat
    simp only [GxR.passing_true, List.length_range] at W5
    have hsz' : its.size = (pr.map tw).length := by rw [hsz, List.length_map]
    rw [hsz'] at W5 hat
    refine hQ pr fd H1 g _ q1 ⟨_, _, _, _, _, W5.in4_1, hat, ?_, fun s' mv => ?_⟩
    · rintro j y z Q' E' ⟨i, hij, d, hd2, rfl⟩ q
      obtain ⟨hj, ej⟩ := List.getElem?_eq_some_iff.mp hij
      rw [List.getElem_range] at ej
      cases ej
      have q' : Q' (trD (pairB (pb fd)) (pr.map tw) j) z := q
      unfold trD at q'
      rw [hd2] at q'
      exact wpAny_truthy_bool q'
    · have nw : ∀ b u, s1.heap.get? b = some u → b ∉ h3.objs.size :: [s1.heap.objs.size] := fun b u e hb => by
        have l := Heap.lt_size e
        have l2 : s1.heap.objs.size < h3.objs.size := lt
        rcases List.mem_cons.mp hb with z | z
        · rw [z] at l
          exact Nat.lt_asymm l l2
        · rw [at1 b z] at l
          exact Nat.lt_irrefl _ l
      have J := inv_tab (more := more) (h' := s'.heap) (g' := s'.gens) (d' := s'.drawn) (t' := s'.toks) I1 hP (fun b u n e => mv.heap b u (nw b u e) (k5 b u (up0 b u n e))) (mv.heap P _ (nw P _ p0) (k5 P _ hp)) (AllBare.movedS (I1.bare.push gb) mv)
      have es : ({ s1 with heap := s'.heap, gens := s'.gens, drawn := s'.drawn, toks := s'.toks } : Shared) = s' := by
        obtain ⟨_, _, _, _, _⟩ := s'
        have := mv.os
        dsimp only at this
        rw [this]
      rw [es] at J
      exact ⟨upd H1 P (.tbl (ps ++ more)), ⟨⟨_, upd_same, ht'⟩, fun b hb => upd_ne hb⟩, J⟩
def tAllTF (K : PySem.W.Frag) (P : Addr) (is : List Nat) (dom : List PyData → PyData × PyData → Prop) (pb : List PyData → PyData × PyData → Bool) (te : TE) : TE := fun σ H Q => te σ H fun v H1 => ∃ (pr : List (PyData × PyData)) (fd : List PyData), Dq K H1 v (.tuple (pr.map tw)) ∧ CapD K H1 σ is fd ∧ (∀ q ∈ pr, dom fd q) ∧ TabG H1 P ∧ ∀ H2, Tabbed P H1 H2 → Q (.bl (pr.all (pb fd))) H2
/-- all(elt for a, b in e), e a tuple of pairs -/
theorem pe_allTF {c P : Addr} {elt iter : Expr} {xa xb : Str} {qa qb qt p pos gpos : Pos} {kt : Nat} {scope : Scope} {xs : List Str} {is : List Nat} {dom : List PyData → PyData × PyData → Prop} {pb : List PyData → PyData × PyData → Bool} {te : TE} {k : Nat}
    (hr : Room (k + 1) X.A) (hg : Gl X "all") (hm : X.mg "all" = none) (TB : TabB X.base X.mg c P) (hcode : X.env.code = .ref c) (S : GenTF X scope xa xb xs is) (hi : PE X iter te) (hel : EltTF X k scope xa xb xs elt dom pb)
    (hs : ∀ v, genFold iter X.env v = pure v)
    (he : starEach [.GeneratorExp elt [⟨.Tuple [.Name xa qa, .Name xb qb] kt qt, iter, [], 0⟩] scope gpos] X.env = (false, eval (.GeneratorExp elt [⟨.Tuple [.Name xa qa, .Name xb qb] kt qt, iter, [], 0⟩] scope gpos) X.env) :: starEach [] X.env := by rfl) :
    PE X (.Call (.Name "all" p) [.GeneratorExp elt [⟨.Tuple [.Name xa qa, .Name xb qb] kt qt, iter, [], 0⟩] scope gpos] [] pos) (tAllTF X.K P is dom pb te) := by
  refine ⟨fun pins s σ H Q I h => wpAny_Call_Name_kw (ld_blt I hg hm boot_all (PyProof.Rows.callWith_builtin1 ?_ he (by rfl)))⟩
  rw [he]
  show wpAny _ _ (spliced ((false, eval (.GeneratorExp elt [⟨.Tuple [.Name xa qa, .Name xb qb] kt qt, iter, [], 0⟩] scope gpos) X.env) :: backTo pos (starEach [] X.env))) _ _ s
  refine Calls.spliced_cons (genTF (R := fun pr fd H1 => ∀ H2, Tabbed P H1 H2 → Q (.bl (pr.all (pb fd))) H2) hr TB hcode S hi hel hs I h ?_)
  rintro pr fd H1 g z hR ⟨fp, wr, G, F, St, W, hst, htr, hI⟩
  refine Calls.spliced_nil (call_all_walkS (W.self 0 _ _ _ hst ⟨g, fp, wr, G, _, F, St, _, rfl, W, hst, htr, fun s' mv => ?_⟩))
  obtain ⟨H2, hT, J⟩ := hI s' mv
  rw [trD_all (pairB (pb fd)) (pr.map tw), pair_all]
  exact ⟨.bl _, H2, J, rfl, hR H2 hT⟩
end
end Gr

set_option Elab.async false
set_option maxRecDepth 100000
set_option maxHeartbeats 2000000
set_option linter.all false
/-! Ours: quiet code, more: captured names, a - b, -a, e[i] of any sign. -/
namespace Gr
open PySem PySem.Spec PyProof.Rows L2 GxR
section
variable {P : Program} {w : World} {K : PySem.W.Frag} {mg : Str → Option Value} {base h0 : Heap} {k : Nat} {env : Env} {m : Str → Option Value}
theorem qe_free {x : Str} {p : Pos} {c : Addr} {u : Value} {d : PyData} (C : Qc K mg base env) (hl : env.scope.names.lookup x = some .free) (hc : env.cells.lookup x = some c) (hv : h0.IsCell c (some u)) (hr : Vd h0 u d) (hn : (x == ("__classdict__" : Str)) = false := by decide) (hd : (x == ("__debug__" : Str)) = false := by decide) :
    QE P w base h0 k env m (.Name x p) d := fun B E z q => by
  obtain ⟨o, e1, e2⟩ := hv
  exact wpAny_Name (wpAny_loadName_free C.kind hl hc ⟨o, q.up _ _ e1, e2⟩ ⟨hr.up q.up, keeps_refl _⟩ hn) hd
theorem qe_sub {a b : Expr} {i j : Int} {pos : Pos} (ha : QE P w base h0 k env m a (.int i)) (hb : QE P w base h0 k env m b (.int j)) : QE P w base h0 k env m (.BinOp a .Sub b pos) (.int (i - j)) := by
  intro B E z q
  refine wpAny_BinOp (thn (ha B E z q) fun u z1 ⟨r1, k1⟩ => thn (hb B E z1 (q.next k1)) fun v z2 ⟨r2, k2⟩ => ?_)
  obtain ⟨t, rfl⟩ := vd_int r1
  obtain ⟨t', rfl⟩ := vd_int r2
  exact sub_int ⟨⟨_, .int _ _⟩, kt k1 (kt k2 (keeps_tok _ _))⟩
theorem qe_neg {a : Expr} {i : Int} {pos : Pos} (ha : QE P w base h0 k env m a (.int i)) : QE P w base h0 k env m (.UnaryOp .USub a pos) (.int (-i)) := by
  intro B E z q
  refine UnaryOp_ (thn (ha B E z q) fun u z1 ⟨r1, k1⟩ => ?_)
  obtain ⟨t, rfl⟩ := vd_int r1
  exact neg_int ⟨⟨_, .int _ _⟩, kt k1 (keeps_tok _ _)⟩
theorem qe_ixA {e sl : Expr} {i : Int} {pos : Pos} {ds : List PyData} {d : PyData} (he : QE P w base h0 k env m e (.tuple ds)) (hi : QE P w base h0 k env m sl (.int i)) (ha : atI ds i = some d) (hl : ds.length ≤ sizeLine) (hs : ∀ o v, subscripted sl false o v = operate [o, v] (getItem o v) := by intro _ _; with_unfolding_all rfl) :
    QE P w base h0 k env m (.Subscript e sl pos) d := by
  intro B E z q
  refine Subscript_ (thn (he B E z q) fun u z1 ⟨r1, k1⟩ => thn (hi B E z1 (q.next k1)) fun x z2 ⟨r2, k2⟩ => ?_)
  obtain ⟨t, its, rfl, ht, hall⟩ := vd_tup (r1.up (kk k2))
  obtain ⟨t', rfl⟩ := vd_int r2
  have hn := line63
  have hz : its.size = ds.length := by
    have := hall.len
    rw [← this, Array.length_toList]
  obtain ⟨j, e1, e2, e3, e4, e5⟩ := atI_get ha
  obtain ⟨v, hv, rv⟩ := hall.get e2
  have hv' : its[j]? = some v := by rw [← Array.getElem?_toList]; exact hv
  refine subscriptTail_builtinR (x := v) ht.typeIs slot_tuple_getitem.lookup (getItem_tuple (j := j) (Q := fun r s' => r = v ∧ (Vd s'.heap r d ∧ Keeps z s')) ht (by omega) (by omega) (by rw [hz]; exact e1) hv' ⟨rfl, rv, kt k1 k2⟩) (hs _ _)
theorem qe_lt {a b : Expr} {i j : Int} {pos : Pos} (ha : QE P w base h0 k env m a (.int i)) (hb : QE P w base h0 k env m b (.int j)) (hm : behindInMarks .Lt b = false := by with_unfolding_all rfl) : QE P w base h0 k env m (.Compare a [.Lt] [b] pos) (.bool (decide (i < j))) :=
  qe_cmp (c := fun i j => decide (i < j)) ha hb (fun q => lt_int q) hm
theorem qe_ge {a b : Expr} {i j : Int} {pos : Pos} (ha : QE P w base h0 k env m a (.int i)) (hb : QE P w base h0 k env m b (.int j)) (hm : behindInMarks .GtE b = false := by with_unfolding_all rfl) : QE P w base h0 k env m (.Compare a [.GtE] [b] pos) (.bool (decide (j ≤ i))) :=
  qe_cmp (c := fun i j => decide (j ≤ i)) ha hb (fun q => ge_int q) hm
end
end Gr

set_option Elab.async false
set_option maxRecDepth 100000
set_option maxHeartbeats 4000000
set_option linter.all false
/-! Ours: t[::-1] of a tuple. -/
namespace Gr
open PySem PySem.Spec PyProof.Rows L2 GxR HT
theorem all_at {α : Type} : ∀ l : List α, (List.range l.length).filterMap (fun k => l[k]?) = l
  | [] => rfl
  | a :: l => by
    rw [List.length_cons, List.range_succ_eq_map, List.filterMap_cons]
    show a :: _ = _
    rw [List.filterMap_map]
    exact congrArg (a :: ·) (all_at l)
theorem fm_congr {α β : Type} {f g : α → Option β} : ∀ l : List α, (∀ k ∈ l, f k = g k) → l.filterMap f = l.filterMap g
  | [], _ => rfl
  | a :: l, h => by
    rw [List.filterMap_cons, List.filterMap_cons, h a List.mem_cons_self, fm_congr l fun k hk => h k (List.mem_cons_of_mem _ hk)]
theorem pick_rev (xs : Array Value) : ((List.range xs.size).filterMap fun (k : Nat) => xs[(((xs.size : Int) - 1) + (k : Int) * (-1)).toNat]?).toArray = xs.toList.reverse.toArray := by
  have h := all_at xs.toList.reverse
  rw [List.length_reverse, Array.length_toList] at h
  rw [← h]
  congr 1
  refine fm_congr _ fun k hk => ?_
  have hk := List.mem_range.mp hk
  rw [List.getElem?_reverse (by rw [Array.length_toList]; exact hk), Array.length_toList, Array.getElem?_toList]
  congr 1
  omega
theorem sliceApplied_rev {prog : Program} {w : World} {A : Around} {E : Value → Shared → Prop} {s : Shared} {sl : Addr} {n : Nat} {u : Tok} {Q : Int × Int × Nat → Shared → Prop} (hs : s.heap.IsSliceOf sl .none .none (.int (-1) u))
    (h : Q ((n : Int) - 1, -1, n) s) : wpAny (model prog w) A (Builtin.Slice.sliceApplied (.ref sl) (pure (n : Int))) Q E s := by
  obtain ⟨os, hos, hcs, hds⟩ := id hs
  unfold Builtin.Slice.sliceApplied Builtin.Slice.sliceFields
  refine wpAny_bind (wpAny_bind (wpAny_field hos hds (x := .none) rfl (wpAny_bind (wpAny_field hos hds (x := .none) rfl (wpAny_bind (wpAny_field hos hds (x := .int (-1) u) rfl (wpAny_pure ?_)))))))
  refine wpAny_bind (slicePart_ (o := some (-1)) (by first | exact ⟨u, rfl⟩ | exact .int _ _ | rfl) ?_)
  show wpAny _ _ (if ((-1 : Int) == 0) = true then _ else _) _ _ s
  rw [if_neg (by decide)]
  refine wpAny_bind (slicePart_none (wpAny_bind (slicePart_none (wpAny_bind (wpAny_pure ?_)))))
  have e : Builtin.Slice.slicePlaces ((n : Int) - 1) (-1) (-1) = n := by
    unfold Builtin.Slice.slicePlaces
    rw [if_neg (by decide)]
    by_cases z : n = 0
    · subst z
      rfl
    · rw [if_pos (by omega), show -(-1 : Int) = 1 from rfl, Int.ediv_one]
      omega
  show wpAny _ _ (pure ((n : Int) - 1, (-1 : Int), Builtin.Slice.slicePlaces ((n : Int) - 1) (-1) (-1))) _ _ s
  rw [e]
  exact wpAny_pure h
theorem getItem_tuple_rev {prog : Program} {w : World} {A : Around} {E : Value → Shared → Prop} {s : Shared} {t sl : Addr} {items : Array Value} {u : Tok} {Q : Value → Shared → Prop} (ht : IsTup s.heap t items) (hs : s.heap.IsSliceOf sl .none .none (.int (-1) u))
    (h : Q (.ref s.heap.objs.size) { s with heap := s.heap.push { cls := .type "tuple", data := .seq items.toList.reverse.toArray } }) (hsz : items.size ≤ sizeLine) : wpAny (model prog w) A (getItem (.ref t) (.ref sl)) Q E s := by
  obtain ⟨os, hos, hcs, hds⟩ := id hs
  have hTs : s.TypeIs (.ref sl) "slice" := ⟨os, hos, hcs⟩
  unfold getItem
  try with_reducible refine wpAny_holding ?_
  first | refine wpAny_bind (wpAny_pure ?_) | skip
  refine wpAny_bind (wpAny_sequenceKey ht.typeIs (by decide) ?_)
  refine wpAny_bind (wpAny_callSpecial?_slot (name := Str.ofString "__getitem__") ht.typeIs PyProof.Rows.slot_tuple_getitem
    (wpAny_call_entry PyProof.Rows.slot_tuple_getitem ht.typeIs entry_tuple_getitem ?_ (args_tuple_getitem _ _)))
  show wpAny _ _ (Builtin.Tuple.tupleItemsOf (.ref t) >>= _) _ _ s
  refine wpAny_bind (tupleItemsOf_ ht ?_)
  refine wpAny_bind (wpAny_typeOf hTs ?_)
  rw [if_pos (by decide)]
  refine wpAny_bind (sliceApplied_rev hs ?_)
  have hno : (((items.size : Int) - 1) == 0 && (-1 : Int) == 1 && items.size == items.size) = false := by
    rw [show ((-1 : Int) == 1) = false by decide, Bool.and_false, Bool.false_and]
  show wpAny _ _ (if (((items.size : Int) - 1) == 0 && (-1 : Int) == 1 && items.size == items.size) = true then _ else _) _ _ s
  rw [if_neg (by rw [hno]; decide)]
  rw [pick_rev]
  have htake : sizeOk (.seq items.toList.reverse.toArray) := by
    show items.toList.reverse.toArray.size ≤ sizeLine
    rw [List.size_toArray, List.length_reverse, Array.length_toList]
    exact hsz
  first
    | exact wpAny_bind (m := Builtin.Tuple.tupleExact _) (wpAny_newObj_type (wpAny_pure ⟨_, rfl, wpAny_pure h⟩) htake)
    | exact wpAny_bind (m := Builtin.Tuple.tupleExact _) (wpAny_newObj_type (wpAny_bind (wpAny_pure (wpAny_pure ⟨_, rfl, wpAny_pure h⟩))) htake)
    | exact wpAny_bind (wpAny_bind (m := Builtin.Tuple.tupleExact _) (wpAny_newObj_type (wpAny_pure (wpAny_pure ⟨_, rfl, wpAny_pure h⟩)) htake))
    | exact wpAny_bind (wpAny_bind (m := Builtin.Tuple.tupleExact _) (wpAny_newObj_type (wpAny_pure ⟨_, rfl, wpAny_pure h⟩) htake))
def tRevT (K : PySem.W.Frag) (te : TE) : TE := fun σ H Q => te σ H fun x H1 => ∃ a xs, x = .ref a ∧ SqT K H1 a xs ∧ ∀ p, H1 p = none → Q (.ref p) (upd H1 p (.tup xs.reverse))
section
variable {X : Cx} {te : TE}
/-- t[::-1] -/
theorem pe_revT {e : Expr} {k : Nat} {p1 p2 p3 pos : Pos} (he : PE X e te) : PE X (.Subscript e (.Slice none none (some (.UnaryOp .USub (.Constant (.int 1) k p1) p2)) p3) pos) (tRevT X.K te) := by
  refine ⟨fun pins s σ H Q I h => ?_⟩
  refine Subscript_ (thn (he.run pins s σ H _ I h) fun v s1 ⟨x, H1, I1, r1, q1⟩ => ?_)
  obtain ⟨a, xs, ex, hx, q⟩ := q1
  subst ex
  cases r1
  have hst : PO X (some (.UnaryOp .USub (.Constant (.int 1) k p1) p2)) (tPart (tUn (rU fun i => .int (-i)) (tC (.int 1)))) := po_some (pe_un un_neg pe_int)
  refine wpAny_Slice (thn (po_none.run pins s1 σ H1 (fun o H2 => o = none ∧ H2 = H1) I1 ⟨rfl, rfl⟩) fun vl s2 ⟨l, H2, I2, pl, el, e2⟩ => ?_)
  subst el e2
  refine thn (po_none.run pins s2 σ H2 (fun o H3 => o = none ∧ H3 = H2) I2 ⟨rfl, rfl⟩) fun vu s3 ⟨u, H3, I3, pu, eu, e3⟩ => ?_
  subst eu e3
  refine thn (hst.run pins s3 σ H3 (fun o H4 => o = some (-1) ∧ H4 = H3) I3 ⟨1, rfl, -1, rfl, rfl, rfl⟩) fun vs s4 ⟨o, H4, I4, ps, eo, e4⟩ => ?_
  subst eo e4
  have I5 : Inv X pins σ H4 { s4 with heap := s4.heap.push { cls := .type "slice", data := .fields #[vl, vu, vs] } } := I4.kept (t' := s4.toks) fun b ob q => Heap.get?_push_of_some _ q
  obtain ⟨its, r, ht, hz⟩ := I5.tuple hx
  have hlen := r.length
  cases pl
  cases pu
  cases ps with
  | int i t =>
  show wpAny (model X.prog X.w) X.A (subscriptTail e (.Slice none none (some (.UnaryOp .USub (.Constant (.int 1) k p1) p2)) p3) (.ref a) (.ref s4.heap.objs.size)) (EP X pins σ Q) X.xe { s4 with heap := s4.heap.push { cls := .type "slice", data := .fields #[.none, .none, .int (-1) t] } }
  refine tail_any (ops := [.ref a, .ref s4.heap.objs.size]) ht.typeIs (PyProof.Rows.slot_tuple_getitem.lookup) ?_ (by with_unfolding_all rfl)
  refine getItem_tuple_rev ht (Heap.IsSliceOf.new _ .none .none (.int (-1) t)) ?_ (by rw [List.size_toArray]; omega)
  refine ⟨.ref _, _, I5.laid (t' := s4.toks) (o := .tup xs.reverse) (fun b ob q => Heap.get?_push_of_some _ q) (Nat.le_refl _) ?_, rfl, q _ (I5.hok.fresh (Nat.le_refl _))⟩
  exact ⟨by rw [List.length_reverse]; exact hlen ▸ hz, _, r.reverse, IsTup.new _ _⟩
end
end Gr

set_option Elab.async false
set_option maxRecDepth 100000
set_option maxHeartbeats 4000000
set_option linter.all false
/-! Ours: sorted(a tuple of numbers). -/
namespace Gr
open PySem PySem.Spec PyProof.Rows L2 GxR SrtO
section
variable {prog : Program} {w : World} {A : Around} {E : Value → Shared → Prop} {s : Shared}
def colH (h : Heap) (vs : List Value) : Heap := (h.push (seqObj "list" #[] 0)).update h.objs.size (Obj.mapSeq (· ++ vs.toArray))
theorem colH_size (h : Heap) (vs : List Value) : (colH h vs).objs.size = h.objs.size + 1 := by unfold colH; rw [Heap.size_update, size_push']
theorem colH_old {h : Heap} {vs : List Value} {b : Addr} {o : Obj} (q : h.get? b = some o) : (colH h vs).get? b = some o := by
  unfold colH
  rw [Heap.get?_update_ne _ _ _ _ (Nat.ne_of_lt (Heap.lt_size q))]
  exact Heap.get?_push_of_some _ q
/-- the elements of a tuple, gathered -/
theorem gather_tup {t : Addr} {vs : List Value} {Q : List Value → Shared → Prop} (ht : IsTup s.heap t vs.toArray) (hz : vs.length ≤ sizeLine) (k : Q vs { s with heap := colH s.heap vs }) : wpAny (model prog w) A (collect (.ref t)) Q E s := by
  obtain ⟨o, go, co, m, dt⟩ := id ht
  unfold collect
  refine wpAny_bind (wpAny_runValue (codeAny_builtin entry_proto_collect' (?_ : wpAny _ _ _ _ _ _)))
  show wpAny _ _ (do let l ← newList []; again (.builtin "list.__iadd__" ⟨[l, .ref t], []⟩)) _ _ s
  refine wpAny_bind (wpAny_newList (wpAny_pure (And.intro (Code.quiet_builtin _ (by decide +kernel)) (codeAny_builtin entry_list_iadd' ?_))))
  show wpAny _ _ (Builtin.List.listExtendWith (.ref (s.heap.objs.size)) (.ref t) (.ref (s.heap.objs.size))) _ _ (Shared.mk _ _ _ _ _)
  unfold Builtin.List.listExtendWith
  have g2 : (s.heap.push (seqObj "list" #[] 0)).get? t = some o := Heap.get?_push_of_some (seqObj "list" #[] 0) go
  refine wpAny_bind (wpAny_typeOf (T := "tuple") ⟨o, g2, co⟩ ?_)
  rw [if_pos (by rw [show (Value.type "tuple" == Value.type "tuple") = true from rfl, Bool.or_true])]
  refine wpAny_bind (listItems_at g2 dt (wpAny_bind (listItems_at (xs := #[]) (n := 0) (Heap.get?_push_size _ rfl) rfl ?_)))
  rw [if_neg (by simp)]
  have fits : (#[] ++ vs.toArray : Array Value).size ≤ sizeLine + 1 := by simp only [Array.size_append, List.size_toArray, List.length_nil]; omega
  refine wpAny_bind (listUpdate_at (xs := #[]) (n := 0) (Heap.get?_push_size _ rfl) rfl (wpAny_pure ?_) (Nat.zero_le _) fits)
  show wpAny (model prog w) A (do let r ← load s.heap.objs.size
                                  match r.data with
                                  | .seq xs _ => pure xs.toList
                                  | _ => unsupported "internal:collect") Q E { s with heap := colH s.heap vs }
  refine wpAny_bind (wpAny_load (get?_update_seq (Heap.get?_push_size _ rfl) _) (?_ : wpAny _ _ (pure ((#[] : Array Value) ++ vs.toArray).toList) _ _ _))
  rw [show ((#[] : Array Value) ++ vs.toArray).toList = vs from by simp]
  exact wpAny_pure k
theorem sorted_tup {t : Addr} {vs : List Value} {ns : List Int} {Q : Value → Shared → Prop} (ht : IsTup s.heap t vs.toArray) (hI : IntsAre vs ns) (hz : vs.length ≤ sizeLine)
    (k : ∀ out : List Value, Srtd ltIv out → Stb ltIv out vs → Q (.ref (s.heap.objs.size + 1)) { s with heap := sortedAll s.heap vs out.toArray }) : wpAny (model prog w) A (call (.builtin "sorted") [.ref t]) Q E s := by
  refine call_function_entry_kw kind_sorted plain_sorted entry_sorted (kw := []) (args_sorted1 _) (?_ : wpAny _ _ _ _ _ _)
  unfold Builtin.«sorted»
  refine wpAny_bind (m := checkCount "sorted" 1 1 _) (wpAny_pure (wpAny_bind (gather_tup ht hz (wpAny_bind (wpAny_newList (?_ : wpAny _ _ _ _ _ _) hz)))))
  have hat : ((colH s.heap vs).push (seqObj "list" vs.toArray 0)).get? (s.heap.objs.size + 1) = some (seqObj "list" vs.toArray 0) := by
    rw [← colH_size s.heap vs]
    exact Heap.get?_push_size _ rfl
  have old : ∀ b o, s.heap.get? b = some o → b ≠ s.heap.objs.size + 1 ∧ ((colH s.heap vs).push (seqObj "list" vs.toArray 0)).get? b = some o := fun b o q => ⟨Nat.ne_of_lt (Nat.lt_succ_of_lt (Heap.lt_size q)), Heap.get?_push_of_some _ (colH_old q)⟩
  show wpAny _ _ _ _ _ { s with heap := (colH s.heap vs).push (seqObj "list" vs.toArray 0) }
  rw [show ({ s with heap := colH s.heap vs } : Shared).heap.objs.size = s.heap.objs.size + 1 from colH_size s.heap vs]
  refine wpAny_bind (wpAny_holding (wpAny_call_entry slot_list_sort ⟨_, hat, rfl⟩ entry_list_sort (list_sort_ord swo_int hat hz (fun h2 => ints_sortable hI h2) (fun out h1 h2 => ⟨_, rfl, wpAny_pure ⟨_, rfl, k out h1 h2⟩⟩)) (args_list_sort _)))
end
/-- sorted(a tuple of ints) -/
def rSortedT (K : PySem.W.Frag) : List V → Hp → VK → Prop := fun vs H Q => ∃ (a : Addr) (ns : List Int), vs = [.ref a] ∧ SqT K H a (ns.map V.int) ∧
  ∀ (ms : List Int) (p : Addr), ms.Perm ns → ms.Pairwise (· ≤ ·) → H p = none → Q (.ref p) (upd H p (.lst (ms.map V.int)))
theorem cr_sortedTup {X : Cx} : CallR X (.builtin "sorted") (rSortedT X.K) := by
  intro pins s σ H vs us Q I r h
  obtain ⟨a, ns, rfl, hs, q⟩ := h
  obtain ⟨its, rv, tp, hz⟩ := I.tuple hs
  rw [Vals.ref1 r]
  have hi := rv.ints
  refine sorted_tup tp hi (rv.length ▸ hz) fun out h1 h2 => ?_
  obtain ⟨k1, k2, k3⟩ := ints_out hi h1 h2
  obtain ⟨ep, hat⟩ := sortedAll_at s.heap its out.toArray
  have hl : ((out.map iv).map V.int).length ≤ sizeLine := by
    rw [List.length_map] at hz ⊢
    exact Nat.le_trans (Nat.le_of_eq k2.length_eq) hz
  exact ⟨.ref _, upd H (s.heap.objs.size + 1) (.lst ((out.map iv).map V.int)), I.laid (t' := s.toks) (fun _ _ => sortedAll_old) (Nat.le_succ _) ⟨hl, out, ep, vals_of_ints k1, hat⟩, rfl, q _ _ k2 k3 (I.hok.fresh (Nat.le_succ _))⟩
end Gr

set_option Elab.async false
set_option maxRecDepth 100000
set_option maxHeartbeats 4000000
set_option linter.all false
/-! Ours: t.index(k) of a tuple of numbers. -/
namespace Gr
open PySem PySem.Spec PyProof.Rows L2 GxR
def rIdxI (K : PySem.W.Frag) : V → List V → Hp → VK → Prop := fun x xs H Q => ∃ (p : Addr) (ns : List Int) (k : Int), x = .ref p ∧ xs = [.int k] ∧ SqT K H p (ns.map V.int) ∧ k ∈ ns ∧ Q (.int (ns.idxOf k : Nat)) H
theorem mt_tup_ints {X : Cx} : MtR X "tuple.index" (rIdxI X.K) := by
  intro pins s σ H x xs v us Q I rx rs h
  obtain ⟨p, ns, k, rfl, rfl, hq, hk, q⟩ := h
  cases rx
  obtain ⟨u, rfl, t, rfl⟩ := vals1 rs
  obtain ⟨its, r, pl, hz⟩ := I.tuple hq
  exact PySem.SeqAt.tuple_index_ints pl r.ints hk ⟨.int _, H, I.tok _, ⟨_, rfl⟩, q⟩
theorem mt_tup_intsB {X : Cx} {s : Shared} {H : Hp} {sc : Scope} {en : Env} {fp : List Addr} : MtR (X.blk s H sc en fp) "tuple.index" (rIdxI X.K) := mt_tup_ints
end Gr

set_option Elab.async false
set_option maxRecDepth 100000
set_option maxHeartbeats 4000000
set_option linter.all false
/-! Ours: a new tuple of which the whole object is known (frozen); its index(k); thawed when it is read once more. -/
namespace Gr
open PySem PySem.Spec PyProof.Rows L2 GxR
section
variable {X : Cx}
/-- tuple(a list): a frozen one -/
theorem call_tuple_frz : CallR X (.type "tuple") (fun xs H Q => ∃ p ys, xs = [.ref p] ∧ SqL X.K H p ys ∧ ∀ (l : Addr) (o : Obj), H l = none → o.dict = none → Q (.ref l) (upd H l (.frz o (.tup ys)))) := by
  intro pins s σ H xs us Q I r h
  obtain ⟨p, ys, rfl, hq, q⟩ := h
  obtain ⟨u, rfl, rx⟩ := vals1 r
  cases rx
  obtain ⟨its, rv, pl, hz⟩ := I.list hq
  have hl := rv.length
  refine call_tuple_list pl.isList (fun h2 kp => ?_) (by rw [List.size_toArray]; omega)
  have J := (I.kept (h' := h2) (t' := s.toks) kp).laid (h' := h2.push { cls := .type "tuple", data := .seq its.toArray }) (a := h2.objs.size) (t' := s.toks) (o := .frz { cls := .type "tuple", data := .seq its.toArray } (.tup ys)) (fun b o e => Heap.get?_push_of_some _ e) (Nat.le_refl _)
    ⟨Heap.get?_push_size _ rfl, hz, its, rv, IsTup.new _ _⟩
  exact ⟨.ref h2.objs.size, _, J, rfl, q _ _ ((I.kept (h' := h2) (t' := s.toks) kp).hok.fresh (Nat.le_refl _)) rfl⟩
/-- a name of a frozen thing, thawed -/
def tThaw (H0 : Hp) (te : TE) : TE := fun σ H Q => te σ H fun x H1 => ∃ (d : Addr) (o : Obj) (u : HO), x = .ref d ∧ H1 d = some (.frz o u) ∧ (∀ o' u', H0 d ≠ some (.frz o' u')) ∧ Q (.ref d) (upd H1 d u)
theorem pe_thaw {e : Expr} {te : TE} (h : PE X e te) : PE X e (tThaw X.H_0 te) := by
  refine ⟨fun pins s σ H Q I hq => ?_⟩
  refine thn (h.run pins s σ H _ I hq) fun v s1 ⟨x, H1, I1, r1, q1⟩ => ?_
  obtain ⟨d, o, u, rfl, e1, e2, q2⟩ := q1
  exact ⟨.ref d, _, I1.unlock e1 e2, r1, q2⟩
def tIdxF (k : Int) (to : TE) : TE := fun σ H Q => to σ H fun x H1 => ∃ (d : Addr) (o : Obj) (ns : List Int), x = .ref d ∧ H1 d = some (.frz o (.tup (ns.map V.int))) ∧ o.dict = none ∧ k ∈ ns ∧ Q (.int (ns.idxOf k : Nat)) H1
theorem pe_idxF {o e : Expr} {to : TE} {k : Int} {p1 p2 : Pos} (ho : PE X o to) (he : PE X e (tC (.int k)))
    (h1 : attributeBase o "index" X.env (eval o X.env) = eval o X.env)
    (h2 : ((backTo p2 (starEach [e] X.env)).all (fun x => !x.1) && (backToKw p2 (keywordEach [] X.env)).all (fun x => x.1.isSome) && decide (([e] : List Expr).length + ([] : List Keyword).length + (if ([] : List Keyword).isEmpty then 0 else 1) < 30)) = true)
    (h3 : (p1.endLine == p2.line) = true) (h4 : starEach [e] X.env = (false, eval e X.env) :: starEach [] X.env) (h5 : (backTo p2 (starEach [] X.env)).any (·.1) = false) : PE X (.Call (.Attribute o "index" p1) [e] [] p2) (tIdxF k to) := by
  refine ⟨fun pins s σ H Q I hq => wpAny_Call_method_late h1 h2 h3 rfl (thn (ho.run pins s σ H _ I hq) fun v s1 ⟨x, H1, I1, r1, q1⟩ => ?_)⟩
  obtain ⟨d, ob, ns, rfl, e1, e2, hk, q2⟩ := q1
  have ok := I1.hok d _ e1
  obtain ⟨g1, g2, its, g3, oo, g4, g5, g6⟩ := ok
  cases r1
  have eo : ob = oo := Option.some.inj (g1.symm.trans g4)
  refine ⟨"tuple", "tuple.index", PySem.F.plainAttrs_tuple, PySem.F.slot_tuple_index, PySem.F.type_tuple_index, ⟨ob, g1, eo ▸ g5⟩, fun a ea => by cases ea; exact ⟨ob, g1, e2⟩, ?_⟩
  have hA := (pa_cons he pa_nil h4).run p2 pins s1 σ H1 (fun vs H2 => vs = [.int k] ∧ H2 = H1) I1 ⟨rfl, rfl⟩
  rw [h4] at hA ⊢
  refine Calls.callWith_builtin (by show (false || (backTo p2 (starEach [] X.env)).any (·.1)) = false; rw [h5]; rfl) (Calls.evalArgs_plain (thn hA fun us s2 ⟨vs, H2, I2, r2, a, b⟩ => ?_))
  subst a b
  exact mt_tup_ints pins s2 σ _ (.ref d) [.int k] _ us Q I2 rfl r2 ⟨d, ns, k, rfl, rfl, .inl (.inr ⟨ob, e1⟩), hk, q2⟩
end
end Gr

set_option Elab.async false
set_option maxRecDepth 100000
set_option linter.all false
/-! Ours: the repr of a tuple of numbers; lists of numbers that are equal. -/
namespace Gr
open PySem PySem.Spec PyProof.Rows L2 GxR
theorem shown_num {i : Int} (h0 : 0 ≤ i) (h1 : i < 10 ^ 10) : (PyData.int i).shown.length ≤ 11 := by
  rw [PyData.shown_int]
  show (Str.ofString (toString i)).length ≤ 11
  rw [PySem.ofString_length]
  exact int_text_length_le10 (by decide) (by omega)
theorem showall_nums : ∀ {l : List Int}, (∀ i ∈ l, 0 ≤ i ∧ i < 10 ^ 10) → PyData.showableAll (l.map PyData.int) = true
  | [], _ => rfl
  | i :: l, h => by
    have ih := showall_nums (l := l) fun j hj => h j (List.mem_cons_of_mem _ hj)
    have h1 := h i List.mem_cons_self
    have h2 : i.natAbs.log2 < 1920 := by
      by_cases z : i.natAbs = 0
      · rw [z]; decide
      · exact Nat.lt_of_lt_of_le ((Nat.log2_lt z).mpr (show i.natAbs < 2 ^ 40 by omega)) (by decide)
    simp [PyData.showableAll, PyData.showable, ih, h2]
theorem depthall_nums : ∀ l : List Int, PyData.depthAll (l.map PyData.int) ≤ 2
  | [] => by simp [PyData.depthAll]
  | i :: l => by
    have := depthall_nums l
    simp only [List.map_cons, PyData.depthAll, PyData.depth]
    omega
theorem piled_nums : ∀ {l : List Int}, (∀ i ∈ l, 0 ≤ i ∧ i < 10 ^ 10) → piled (PyData.shownAll (l.map PyData.int)) ≤ 13 * l.length
  | [], _ => by simp [PyData.shownAll, piled_nil]
  | i :: l, h => by
    have ih := piled_nums (l := l) fun j hj => h j (List.mem_cons_of_mem _ hj)
    have h1 := shown_num (h i List.mem_cons_self).1 (h i List.mem_cons_self).2
    simp only [List.map_cons, PyData.shownAll, piled_cons, List.length_cons]
    omega
theorem shown_tup_le (ds : List PyData) : (PyData.tuple ds).shown.length ≤ piled (PyData.shownAll ds) + 3 := by
  rw [PyData.shown_tuple]
  have e1 : ("(" : Str).length = 1 := by decide +kernel
  have e2 : (Str.ofString (if (ds.length == 1) = true then ",)" else ")")).length ≤ 2 := by
    split <;> decide +kernel
  cases ds with
  | nil => decide +kernel
  | cons d r =>
    have h := join_length_add (PyData.shownAll (d :: r)) (by simp [PyData.shownAll])
    rw [Str.length_append, Str.length_append]
    omega
theorem nums_facts {l : List Int} (h : ∀ i ∈ l, 0 ≤ i ∧ i < 10 ^ 10) (n : l.length ≤ 100) : (PyData.tuple (l.map PyData.int)).showable = true ∧ (PyData.tuple (l.map PyData.int)).depth ≤ 60 ∧ (PyData.tuple (l.map PyData.int)).shown.length ≤ sizeLine := by
  have a := showall_nums h
  have b := depthall_nums l
  have c := piled_nums h
  have d := shown_tup_le (l.map PyData.int)
  have mz : 5000 ≤ sizeLine := by decide
  exact ⟨by simp [PyData.showable, a], by simp only [PyData.depth]; omega, by omega⟩
theorem lay_nums : ∀ l : List Int, PyData.canLayAll0 (l.map PyData.int) = true
  | [] => rfl
  | i :: l => by
    have := lay_nums l
    simp [PyData.canLayAll0, PyData.canLay0, this]
theorem shaped_nums (l : List Int) : SeqAt.shaped (.list (l.map PyData.int)) = true := by
  have a := lay_nums l
  have b := depthall_nums l
  unfold SeqAt.shaped
  rw [Bool.and_eq_true, decide_eq_true_eq]
  exact ⟨by simp [PyData.canLay0, a], by simp only [PyData.depth]; omega⟩
theorem eqv_nums (l : List Int) : PyData.eqv (.list (l.map PyData.int)) (.list (l.map PyData.int)) = true :=
  SeqAt.eqv_refl _ (by have a := lay_nums l; simp [PyData.canLay0, a])
theorem dp_nums {K : PySem.W.Frag} {H : Hp} : ∀ l : List Int, DpAll K H (l.map V.int) (l.map PyData.int)
  | [] => .nil
  | i :: l => .cons (.int i) (dp_nums l)
end Gr

set_option Elab.async false
set_option maxRecDepth 100000
set_option maxHeartbeats 4000000
set_option linter.all false
/-! Ours: a dict display of one pair whose key is a tuple. -/
namespace Gr
open PySem PySem.Spec PyProof.Rows L2 GxR
/-- {k: v}, k a tuple of ints and texts; the new dict stands empty while the pair is made -/
def tDispT (tk tv : TE) : TE := fun σ H Q => ∀ p, H p = none → tk σ (upd H p (.dT [])) fun x H1 => tv σ H1 fun y H2 => ∃ b ks, x = .ref b ∧ H2 b = some (.tup (ks.map kV)) ∧ H2 p = some (.dT []) ∧ Q (.ref p) (upd H2 p (.dT [(ks, y)]))
theorem pe_dispT {X : Cx} {k v : Expr} {tk tv : TE} {pos : Pos} (hu : X.A.units < cLine) (hk : PE X k tk) (hv : PE X v tv) : PE X (.Dict [some k] [v] pos) (tDispT tk tv) := by
  refine ⟨fun pins s σ H Q I q => ?_⟩
  have hn := I.hok.fresh (Nat.le_refl s.heap.objs.size)
  have I1 := I.laid (a := s.heap.objs.size) (o := .dT []) (h' := s.heap.push { cls := .type "dict", data := .dict #[] }) (t' := s.toks) (fun _ _ q => Heap.get?_push_of_some _ q) (Nat.le_refl _) (dt_empty s.heap I.big)
  rw [PySem.arm_eval_Dict, PySem.zip_pairTrees [some k] [v] X.env pos rfl rfl, PySem.dictDisplay_pairs _ (by simp [PySem.pairTrees]) (by simp [PySem.pairTrees])]
  refine wpAny_bind (wpAny_standAt (wpAny_bind (PySem.wpAny_subDictH (knd := tupleKind (mixKind X.prog X.w)) hu (by simp [PySem.pairTrees]) ?_)))
  refine PySem.pairTrees_cons_walk (thn (hk.run pins _ σ _ _ I1 (q _ hn)) fun kv s1 ⟨x, H1, I2, rx, q1⟩ => thn (hv.run pins s1 σ H1 _ I2 q1) fun vv s2 ⟨y, H2, I3, ry, b, ks, ex, eb, ed, q2⟩ => PySem.pairTrees_nil_walk ?_)
  subst ex
  cases (show kv = Value.ref b from rx)
  obtain ⟨z, hd, xs, rel, dd⟩ := dt_of I3.hok ed
  cases rel
  refine ⟨[(ks, b, vv)], ⟨rfl, rfl, key_of I3.hok eb, trivial⟩, dd, fun h' tk dd' hs => wpAny_pure ⟨.ref s.heap.objs.size, _, ?_, rfl, q2⟩⟩
  obtain ⟨q, es, ep, hq, h2, h3, h4, _, h5⟩ := dd'
  refine d_write I3 (by rw [ed]; exact True.intro) hs ⟨q, hq⟩ ⟨by show 1 ≤ sizeLine; rw [sizeLine_eq]; decide, hd, _, .cons ⟨rfl, ?_, ry⟩ .nil, q, es, ep, hq, h2, h3, h4, h5⟩
  rw [upd_ne (ne_of eb ed (fun z => nomatch z))]
  exact eb
end Gr

set_option Elab.async false
set_option maxRecDepth 100000
set_option linter.all false
/-! Ours: the repr of lists and tuples of small data: facts. -/
namespace Gr
open PySem PySem.Spec PyProof.Rows L2 GxR
def SmallD (k s : Nat) (d : PyData) : Prop := d.showable = true ∧ d.depth ≤ k ∧ d.shown.length ≤ s
theorem small_none : SmallD 2 11 .none := ⟨rfl, by decide +kernel, by decide +kernel⟩
theorem small_int {i : Int} (h0 : 0 ≤ i) (h1 : i < 10 ^ 10) : SmallD 2 11 (.int i) := by
  have a := showall_nums (l := [i]) (fun j hj => by rw [List.mem_singleton.mp hj]; exact ⟨h0, h1⟩)
  refine ⟨?_, by simp [PyData.depth], shown_num h0 h1⟩
  simpa [PyData.showableAll] using a
theorem showall_of : ∀ {ds : List PyData} {k s : Nat}, (∀ d ∈ ds, SmallD k s d) → PyData.showableAll ds = true
  | [], _, _, _ => rfl
  | d :: ds, k, s, h => by
    have ih := showall_of (ds := ds) fun x hx => h x (List.mem_cons_of_mem _ hx)
    simp [PyData.showableAll, ih, (h d List.mem_cons_self).1]
theorem depthall_of : ∀ {ds : List PyData} {k s : Nat}, (∀ d ∈ ds, SmallD k s d) → PyData.depthAll ds ≤ k + 1
  | [], _, _, _ => by simp [PyData.depthAll]
  | d :: ds, k, s, h => by
    have ih := depthall_of (ds := ds) fun x hx => h x (List.mem_cons_of_mem _ hx)
    have := (h d List.mem_cons_self).2.1
    simp only [PyData.depthAll]
    omega
theorem piled_of : ∀ {ds : List PyData} {k s : Nat}, (∀ d ∈ ds, SmallD k s d) → piled (PyData.shownAll ds) ≤ (s + 2) * ds.length
  | [], _, _, _ => by simp [PyData.shownAll, piled_nil]
  | d :: ds, k, s, h => by
    have ih := piled_of (ds := ds) fun x hx => h x (List.mem_cons_of_mem _ hx)
    have h1 := (h d List.mem_cons_self).2.2
    simp only [PyData.shownAll, piled_cons, List.length_cons, Nat.mul_succ]
    omega
theorem shown_lst_le (ds : List PyData) : (PyData.list ds).shown.length ≤ piled (PyData.shownAll ds) + 3 := by
  rw [PyData.shown_list]
  have e1 : ("[" : Str).length = 1 := by decide +kernel
  have e2 : ("]" : Str).length = 1 := by decide +kernel
  cases ds with
  | nil => decide +kernel
  | cons d r =>
    have h := join_length_add (PyData.shownAll (d :: r)) (by simp [PyData.shownAll])
    rw [Str.length_append, Str.length_append]
    omega
theorem small_tup {ds : List PyData} {k s : Nat} (h : ∀ d ∈ ds, SmallD k s d) : SmallD (k + 2) ((s + 2) * ds.length + 3) (.tuple ds) := by
  have a := showall_of h
  have b := depthall_of h
  have c := piled_of h
  have d := shown_tup_le ds
  exact ⟨by simp [PyData.showable, a], by simp only [PyData.depth]; omega, by omega⟩
theorem small_lst {ds : List PyData} {k s : Nat} (h : ∀ d ∈ ds, SmallD k s d) : SmallD (k + 2) ((s + 2) * ds.length + 3) (.list ds) := by
  have a := showall_of h
  have b := depthall_of h
  have c := piled_of h
  have d := shown_lst_le ds
  exact ⟨by simp [PyData.showable, a], by simp only [PyData.depth]; omega, by omega⟩
theorem SmallD.mono {k s k' s' : Nat} {d : PyData} (h : SmallD k s d) (a : k ≤ k') (b : s ≤ s') : SmallD k' s' d := ⟨h.1, Nat.le_trans h.2.1 a, Nat.le_trans h.2.2 b⟩
theorem SmallD.facts {k s : Nat} {d : PyData} (h : SmallD k s d) (a : k ≤ 60) (b : s ≤ 5000) : d.showable = true ∧ d.depth ≤ 60 ∧ d.shown.length ≤ sizeLine := by
  have mz : 5000 ≤ sizeLine := by decide
  exact ⟨h.1, Nat.le_trans h.2.1 a, Nat.le_trans h.2.2 (by omega)⟩
end Gr

set_option Elab.async false
set_option maxRecDepth 100000
set_option maxHeartbeats 4000000
set_option linter.all false
/-! Ours: data of tuples alone: it stands as long as the tuples stand; lists of such that grow; cuts between statements. -/
namespace Gr
open PySem PySem.Spec PyProof.Rows L2 GxR
mutual
/-- no list and no dict within -/
def tupD : PyData → Bool
  | .none => true
  | .bool _ => true
  | .int _ => true
  | .str _ => true
  | .list _ => false
  | .tuple xs => tupDs xs
  | .dict _ => false
def tupDs : List PyData → Bool
  | [] => true
  | x :: xs => tupD x && tupDs xs
end
theorem tupDs_of : ∀ {ds : List PyData}, (∀ d ∈ ds, tupD d = true) → tupDs ds = true
  | [], _ => by simp [tupDs]
  | d :: ds, h => by
    simp only [tupDs, Bool.and_eq_true]
    exact ⟨h d List.mem_cons_self, tupDs_of fun x hx => h x (List.mem_cons_of_mem _ hx)⟩
theorem tupDs_mem : ∀ {ds : List PyData}, tupDs ds = true → ∀ d ∈ ds, tupD d = true
  | [], _, d, h => nomatch h
  | e :: ds, h, d, hd => by
    simp only [tupDs, Bool.and_eq_true] at h
    rcases List.mem_cons.mp hd with q | q
    · rw [q]; exact h.1
    · exact tupDs_mem h.2 d q
theorem tupD_tup {ds : List PyData} (h : ∀ d ∈ ds, tupD d = true) : tupD (.tuple ds) = true := by
  simp only [tupD]
  exact tupDs_of h
theorem tupD_ints (ns : List Int) : tupD (.tuple (ns.map PyData.int)) = true := tupD_tup fun d hd => by
  obtain ⟨n, _, rfl⟩ := List.mem_map.mp hd
  simp [tupD]
/-- the tuples stand -/
def TupStay (H H' : Hp) : Prop := ∀ a xs, H a = some (.tup xs) → H' a = some (.tup xs)
theorem TupStay.refl (H : Hp) : TupStay H H := fun _ _ e => e
theorem TupStay.trans {H H1 H2 : Hp} (a : TupStay H H1) (b : TupStay H1 H2) : TupStay H H2 := fun x xs e => b x xs (a x xs e)
theorem same_ts {H H' : Hp} (s : Same H H') : TupStay H H' := fun a xs e => s a _ e
theorem stay_ts {H H' : Hp} (s : Stay H H') : TupStay H H' := fun a xs e => s a _ e fun _ q => nomatch q
theorem ts_but {H H' : Hp} {p : Addr} {ys : List V} (e : H p = some (.lst ys)) (b : ∀ b o, H b = some o → b ≠ p → H' b = some o) : TupStay H H' := fun a xs q => b a _ q fun z => by
  rw [z, e] at q
  cases q
theorem ts_put {H : Hp} {D : Addr} {ys : List V} {o : HO} (e : H D = some (.lst ys)) : TupStay H (upd H D o) := fun a xs q => (upd_ne fun z => by
  rw [z, e] at q
  cases q).trans q
theorem ts_new {H : Hp} {D : Addr} {o : HO} (e : H D = none) : TupStay H (upd H D o) := fun a xs q => (upd_ne fun z => by
  rw [z, e] at q
  cases q).trans q
mutual
theorem Od.ts {H H' : Hp} (s : TupStay H H') : ∀ {v : V} {d : PyData}, Od H v d → tupD d = true → Od H' v d
  | _, _, .non, _ => .non
  | _, _, .bl b, _ => .bl b
  | _, _, .int i, _ => .int i
  | _, _, .str x, _ => .str x
  | _, _, .lst e a, h => by simp [tupD] at h
  | _, _, .tup e a, h => .tup (s _ _ e) (OdAll.ts s a (by simpa [tupD] using h))
  | _, _, .dic e a b, h => by simp [tupD] at h
theorem OdAll.ts {H H' : Hp} (s : TupStay H H') : ∀ {vs : List V} {ds : List PyData}, OdAll H vs ds → tupDs ds = true → OdAll H' vs ds
  | _, _, .nil, _ => .nil
  | _, _, .cons a b, h => by
    simp only [tupDs, Bool.and_eq_true] at h
    exact .cons (Od.ts s a h.1) (OdAll.ts s b h.2)
end
theorem Od.unhide {H : Hp} {ls : List Addr} {v : V} {d : PyData} (o : Od (hide H ls) v d) : Od H v d := o.same (hide_same _ _)
/-- at D a list of data of tuples -/
def LstT (H : Hp) (D : Addr) (ds : List PyData) : Prop := ∃ vs, H D = some (.lst vs) ∧ OdAll H vs ds ∧ tupDs ds = true
theorem LstT.at {H : Hp} {D : Addr} (e : H D = some (.lst [])) : LstT H D [] := ⟨[], e, .nil, by simp [tupDs]⟩
theorem LstT.ts {H H' : Hp} {D : Addr} {ds : List PyData} (h : LstT H D ds) (s : TupStay H H') (e : ∀ vs, H D = some (.lst vs) → H' D = some (.lst vs)) : LstT H' D ds :=
  let ⟨vs, a, b, t⟩ := h; ⟨vs, e _ a, b.ts s t, t⟩
theorem LstT.same {H H' : Hp} {D : Addr} {ds : List PyData} (h : LstT H D ds) (s : Same H H') : LstT H' D ds := h.ts (same_ts s) fun vs e => s _ _ e
theorem tupDs_app {ds es : List PyData} (h : tupDs ds = true) (k : tupDs es = true) : tupDs (ds ++ es) = true := tupDs_of fun d hd => by
  rcases List.mem_append.mp hd with q | q
  · exact tupDs_mem h d q
  · exact tupDs_mem k d q
theorem LstT.put {H : Hp} {D : Addr} {ds : List PyData} {vs : List V} {v : V} {d : PyData} (h : LstT H D ds) (e : H D = some (.lst vs)) (o : Od H v d) (t : tupD d = true) : LstT (upd H D (.lst (vs ++ [v]))) D (ds ++ [d]) := by
  obtain ⟨us, a, b, td⟩ := h
  obtain rfl : us = vs := by rw [a] at e; cases e; rfl
  have s : TupStay H (upd H D (.lst (us ++ [v]))) := ts_put a
  have t1 : tupDs [d] = true := by simp [tupDs, t]
  exact ⟨_, upd_same, (b.ts s td).app ((OdAll.cons o .nil).ts s t1), tupDs_app td t1⟩
theorem LstT.len {H : Hp} {D : Addr} {ds : List PyData} {vs : List V} (h : LstT H D ds) (e : H D = some (.lst vs)) : vs.length = ds.length := by
  obtain ⟨us, a, b, _⟩ := h
  rw [a] at e
  cases e
  exact b.len
/-- its things as a new tuple -/
theorem LstT.tup {H : Hp} {D R : Addr} {ds : List PyData} {vs : List V} (h : LstT H D ds) (e : H D = some (.lst vs)) (hR : H R = none) : Od (upd H R (.tup vs)) (.ref R) (.tuple ds) := by
  obtain ⟨us, a, b, td⟩ := h
  rw [a] at e
  cases e
  exact .tup upd_same (b.ts (ts_new hR) td)
theorem od_at {H : Hp} : ∀ {vs : List V} {ds : List PyData}, OdAll H vs ds → ∀ {i : Nat} {v : V}, vs[i]? = some v → ∃ d, ds[i]? = some d ∧ Od H v d
  | _, _, .nil, _, _, e => by cases e
  | _, _, .cons a b, 0, _, e => by
    cases e
    exact ⟨_, rfl, a⟩
  | _, _, .cons a b, i + 1, v, e => od_at b (i := i) (by simpa using e)
/-- a statement, then what follows, by what stands between them -/
theorem cut1 {A C : TS} {D : Ends} {σ : L2.St} {H : Hp} (R : L2.St → Hp → Prop) (ha : ∀ N : L2.St → Hp → Prop, (∀ σ' H', R σ' H' → N σ' H') → A { D with nx := N } σ H) (hc : ∀ σ' H', R σ' H' → C D σ' H') : tSeq A C D σ H := ha (C D) hc
/-- two statements, then what follows -/
theorem cut2 {A B C : TS} {D : Ends} {σ : L2.St} {H : Hp} (R : L2.St → Hp → Prop) (ha : ∀ N : L2.St → Hp → Prop, (∀ σ' H', R σ' H' → N σ' H') → tSeq A B { D with nx := N } σ H) (hc : ∀ σ' H', R σ' H' → C D σ' H') : tSeq A (tSeq B C) D σ H := ha (C D) hc
end Gr

set_option Elab.async false
set_option maxRecDepth 100000
set_option maxHeartbeats 4000000
set_option linter.all false
/-! Ours: a call with keywords that may raise; data for == ; what can be laid. -/
namespace Gr
open PySem PySem.Spec PyProof.Rows L2 GxR
def tCallNS (n m : Nat) (sp : Sp) (gV : List V → List V → List V) (E : L2.St → XK) (t tk : TA) : TE := fun σ H Q => t σ H fun vs H1 => tk σ H1 fun zs H2 => vs.length = n ∧ zs.length = m ∧ sp (gV vs zs) H2 Q (E σ)
section
variable {X : Cx} {CX : CXT} {k n : Nat} {f : Addr} {fd : FuncData} {ps ks : List Str} {sp : Sp} {E : L2.St → XK} {x : Str} {p pos : Pos} {e : Expr} {es : List Expr} {kws : List Keyword} {t tk : TA} {g : List Value → List Value → List Value} {gV : List V → List V → List V}
theorem run_fnNS {pins : List (Addr × Obj)} {σ : L2.St} {H : Hp} {s : Shared} {Q : VK} {us ws : List Value} {vs zs : List V} (F : FnOk X.prog X.w X.K X.mg X.base CX k f fd ps sp) (hr : Room k X.A) (hb : KBn X.K fd ps n ks g gV) (hx : PassesAt CX X σ (E σ))
    (I : Inv X pins σ H s) (r : Vals vs us) (rz : Vals zs ws) (l1 : vs.length = n) (l2 : zs.length = ks.length) (h : sp (gV vs zs) H Q (E σ)) : wpAny (model X.prog X.w) X.A (call (.ref f) us (ks.zip ws)) (EP X pins σ Q) X.xe s := by
  have r2 := hb.rel r rz
  refine wpAny_call (codeAny_mono (F.run X.A X.stack s H ⟨us, ks.zip ws⟩ (g us ws) (gV vs zs) Q (E σ) hr I.env0 (hb.to s us ws I.kIn (r.length.symm.trans l1) (rz.length.symm.trans l2)) r2 h) fun r s' hq => ?_)
  cases r with
  | error e => exact hx pins H s e s' I hq
  | ok fl =>
    cases fl with
    | ret u => exact I.after hq
    | next => exact False.elim hq
    | brk => exact False.elim hq
    | cont => exact False.elim hq
/-- f(e, .., k = v, ..) that may raise -/
theorem pe_callNS (F : FnOk X.prog X.w X.K X.mg X.base CX k f fd ps sp) (hr : Room k X.A) (hg : Gl X x) (hm : X.mg x = some (.ref f)) (hk : PySem.W.keepIn X.K (.ref f) = true) (hb : KBn X.K fd ps n ks g gV) (hx : ∀ σ, PassesAt CX X σ (E σ))
    (ha : PA X (e :: es) t) (hkw : PK X kws tk) (hall : (backToKw pos (keywordEach kws X.env)).all (·.1.isSome) = true := by rfl) (hks : (backToKw pos (keywordEach kws X.env)).filterMap (·.1) = ks := by rfl)
    (hdb : (x == ("__debug__" : Str)) = false := by decide) (he : starEach (e :: es) X.env = (false, eval e X.env) :: starEach es X.env := by rfl)
    (hpl : ((backTo pos (starEach (e :: es) X.env)).any (·.1) || (backToKw pos (keywordEach kws X.env)).any (·.1.isNone)) = false := by rfl) :
    PE X (.Call (.Name x p) (e :: es) kws pos) (tCallNS n ks.length sp gV E t tk) := by
  refine ⟨fun pins s σ H Q I h => ?_⟩
  refine wpAny_Call_Name_kw (ld_glob I hg hm ?_ hdb)
  refine PySem.W.callWith_KW (h₀ := X.base) I.ok.mod.kin hk hall (thn (ha.run pos pins s σ H _ I h) fun us s1 ⟨vs, H1, I1, r, q⟩ => ?_) hpl he
  refine thn (hkw.run pos pins s1 σ H1 _ I1 q) fun ws s2 ⟨zs, H2, I2, rz, l1, l2, q2⟩ => ⟨I2.kIn, ?_⟩
  rw [hks]
  exact run_fnNS F hr hb (hx σ) I2 r rz l1 l2 q2
end
mutual
theorem Od.dp {K : PySem.W.Frag} {H : Hp} : ∀ {v : V} {d : PyData}, Od H v d → tupD d = true → Dp K H v d
  | _, _, .non, _ => .non
  | _, _, .bl b, _ => .bl b
  | _, _, .int i, _ => .int i
  | _, _, .str x, _ => .str x
  | _, _, .lst e a, h => by simp [tupD] at h
  | _, _, .tup e a, h => .tup (SqT.of e) (OdAll.dp a (by simpa [tupD] using h))
  | _, _, .dic e a b, h => by simp [tupD] at h
theorem OdAll.dp {K : PySem.W.Frag} {H : Hp} : ∀ {vs : List V} {ds : List PyData}, OdAll H vs ds → tupDs ds = true → DpAll K H vs ds
  | _, _, .nil, _ => .nil
  | _, _, .cons a b, h => by
    simp only [tupDs, Bool.and_eq_true] at h
    exact .cons (Od.dp a h.1) (OdAll.dp b h.2)
end
/-- what == takes -/
def Shp (k : Nat) (d : PyData) : Prop := d.canLay0 = true ∧ d.depth ≤ k
theorem shp_int (i : Int) : Shp 1 (.int i) := ⟨by simp [PyData.canLay0], by simp [PyData.depth]⟩
theorem shp_bool (b : Bool) : Shp 1 (.bool b) := ⟨by simp [PyData.canLay0], by simp [PyData.depth]⟩
theorem shp_none : Shp 1 .none := ⟨by simp [PyData.canLay0], by simp [PyData.depth]⟩
theorem lay_all : ∀ {ds : List PyData} {k : Nat}, (∀ d ∈ ds, Shp k d) → PyData.canLayAll0 ds = true ∧ PyData.depthAll ds ≤ k + 1
  | [], k, _ => ⟨by simp [PyData.canLayAll0], by simp [PyData.depthAll]⟩
  | d :: ds, k, h => by
    have a := h d List.mem_cons_self
    have b := lay_all (ds := ds) fun x hx => h x (List.mem_cons_of_mem _ hx)
    refine ⟨by simp [PyData.canLayAll0, a.1, b.1], ?_⟩
    simp only [PyData.depthAll]
    have := a.2
    have := b.2
    omega
theorem shp_tup {ds : List PyData} {k : Nat} (h : ∀ d ∈ ds, Shp k d) : Shp (k + 2) (.tuple ds) := by
  have b := lay_all h
  refine ⟨by rw [PyData.canLay0]; exact b.1, ?_⟩
  simp only [PyData.depth]
  have := b.2
  omega
theorem shp_lst {ds : List PyData} {k : Nat} (h : ∀ d ∈ ds, Shp k d) : Shp (k + 2) (.list ds) := by
  have b := lay_all h
  refine ⟨by rw [PyData.canLay0]; exact b.1, ?_⟩
  simp only [PyData.depth]
  have := b.2
  omega
theorem Shp.ok {k : Nat} {d : PyData} (h : Shp k d) (a : k ≤ 64 := by decide) : SeqAt.shaped d = true := by
  unfold SeqAt.shaped
  rw [Bool.and_eq_true, decide_eq_true_eq]
  exact ⟨h.1, Nat.le_trans h.2 a⟩
theorem Shp.mono {k j : Nat} {d : PyData} (h : Shp k d) (a : k ≤ j) : Shp j d := ⟨h.1, Nat.le_trans h.2 a⟩
end Gr

set_option Elab.async false
set_option maxRecDepth 100000
set_option maxHeartbeats 4000000
set_option linter.all false
/-! Ours: min(numbers, default=None). -/
namespace Gr
open PySem PySem.Spec PyProof.Rows L2 GxR
def minV : List Int → V
  | [] => .non
  | n :: ns => .int (ns.foldl min n)
def rMinDef (K : PySem.W.Frag) : List V → List V → Hp → VK → Prop := fun vs zs H Q => ∃ (a : Addr) (ns : List Int) (_k : Int), vs = [.ref a] ∧ zs = [.non] ∧ SqL K H a (ns.map V.int) ∧ Q (minV ns) H
theorem call_minDef {X : Cx} (hd : X.A.handled = none) (hu : X.A.units + 64 < cLine) : CallRK X (.builtin "min") [("default" : Str)] (rMinDef X.K) := by
  intro pins s σ H xs zs us ws Q I rx rz h
  obtain ⟨a, ns, k, rfl, rfl, hS, q⟩ := h
  obtain ⟨u, rfl, ru⟩ := vals1 rx
  obtain ⟨uw, rfl, rw2⟩ := vals1 rz
  cases ru
  cases rw2
  obtain ⟨its, rv, pl, hz⟩ := I.list hS
  obtain ⟨as, ra⟩ := ints_reads (h := s.heap) rv
  refine PySem.W.min_list_default (xs := ns.map PyData.int) (d := .none) hd pl.isList (by exact ra) (ints_alike ns) (by have := ints_depth ns; omega) (fun e h' tk hk => ?_) (fun y ys i v h' tk bs e hv hr hk => ?_)
  · cases ns with
    | nil => exact ⟨.non, H, I.kept (t' := tk) hk, rfl, q⟩
    | cons n l => cases e
  · cases ns with
    | nil => cases e
    | cons n l =>
      have e1 : y = .int n := (List.cons.inj e).1.symm
      have e2 : ys = l.map PyData.int := (List.cons.inj e).2.symm
      subst e1
      subst e2
      rw [PySem.W.minD_ints] at hr
      cases hr
      exact ⟨.int _, H, I.kept (t' := tk) hk, ⟨_, rfl⟩, q⟩
end Gr

set_option Elab.async false
set_option maxRecDepth 100000
set_option maxHeartbeats 4000000
set_option linter.all false
/-! Ours: tracked tuples joined and cut, told without cases; the same within a comprehension. -/
namespace Gr
open PySem PySem.Spec PyProof.Rows L2 GxR
theorem op_catAB {X : Cx} {s : Shared} {H : Hp} {sc : Scope} {en : Env} {fp : List Addr} : OpR (X.blk s H sc en fp) (binaryOp .Add) (rCatA X.K) := op_catA
/-- two tracked tuples joined -/
theorem cat_tt {K : PySem.W.Frag} {H : Hp} {a b : Addr} {xs ys : List V} {Q : VK} (ha : H a = some (.tup xs)) (hb : H b = some (.tup ys)) (hl : xs.length + ys.length ≤ sizeLine) (k : ∀ p H', Same H H' → H' p = some (.tup (xs ++ ys)) → Q (.ref p) H') : rCatA K (.ref a) (.ref b) H Q := by
  refine ⟨a, b, xs, ys, rfl, rfl, SqT.of ha, SqT.of hb, hl, fun z => ?_, fun _ z => ?_, fun _ _ p hp => k p _ (same_upd hp) upd_same⟩
  · subst z
    exact k b H (.refl H) hb
  · subst z
    exact k a H (.refl H) (by rw [List.append_nil]; exact ha)
/-- the first w of a tracked tuple -/
theorem slice_tt {K : PySem.W.Frag} {H : Hp} {a : Addr} {xs : List V} {w : Int} {Q : VK} (hw : 0 ≤ w) (ha : H a = some (.tup xs)) (k : ∀ p H', Same H H' → H' p = some (.tup (xs.take w.toNat)) → Q (.ref p) H') : rSlA K (.ref a) none (some w) H Q := by
  have e1 : HT.sIx xs.length xs.length (some w) = min w.toNat xs.length := by
    show (if w < 0 then (w + ((xs.length : Nat) : Int)).toNat else min w.toNat xs.length) = _
    rw [if_neg (by omega)]
  have e0 : HT.sIx xs.length 0 none = 0 := HT.sIx_none _ _
  refine ⟨a, xs, rfl, SqT.of ha, fun z => ?_, fun _ p hp => k p _ (same_upd hp) ?_⟩
  · rw [e1] at z
    exact k a H (.refl H) (by rw [List.take_of_length_le (by omega)]; exact ha)
  · rw [upd_same]
    unfold cutV
    rw [e0, e1, List.drop_zero, Nat.sub_zero]
    congr 2
    by_cases y : w.toNat ≤ xs.length
    · rw [Nat.min_eq_left y]
    · rw [Nat.min_eq_right (by omega), List.take_of_length_le (Nat.le_refl _), List.take_of_length_le (by omega)]
end Gr

set_option Elab.async false
set_option maxRecDepth 100000
set_option maxHeartbeats 4000000
set_option linter.all false
/-! Ours: an own exception class with its own __init__, made as a value by position or by keyword; its fields read; isinstance of it. -/
namespace PySem
namespace GrX
open PySem.W PySem.Calls PyProof.Rows PySem.HandSPX
section
variable {M : Model} {prog : Program} {w : World} {A : Around} {E : Value → Shared → Prop} {R : Result → Shared → Prop} {h : Heap} {g : Array GenState} {d : Drawn} {t : Nat} {os : OsState}
variable {nm q : Str} {C N : Addr} {bs bm bmB : List Value} {hdct : Bool} {sn : List Str} {sub : List Value} {ab : Bool} {col : Option Bool} {dd : Option Addr} {k0 k1 k2 k3 k5 : Option Value} {B newId initId : String}

theorem check_newK (F : ExcBaseFacts B newId initId bmB) (hT : ∀ X : String, bm.contains (.type X) = bmB.contains (.type X)) {rest : List Value} {kw : List (Str × Value)} {Q : Unit → Shared → Prop}
    (hC : h.get? C = some (excClassObj nm q C N bs bm hdct sn sub ab col dd k0 k1 k2 k3 k5 newId)) (hq : Q () ⟨h, g, d, t, os⟩) :
    wpAny M A (checkBuiltinCall newId ⟨.ref C :: rest, kw⟩) Q E ⟨h, g, d, t, os⟩ := by
  have hin : (Value.ref C :: bm).contains (.type B) = true := by rw [List.contains_cons, hT, F.hasB, Bool.or_true]
  have hst := F.noStar
  simp only [checkBuiltinCall, F.newKind, F.newSplit, F.newRow]
  repeat (first
    | refine wpAny_loadPart_at hC ?_
    | (refine wpAny_isSubtype_exc hC ?_; rw [hin])
    | refine wpAny_staticBase_exc hC ?_
    | refine wpAny_madeBy_exc hC ?_
    | simp only [bne_self_eq_false, Bool.false_eq_true, if_false]
    | wp_step)
  exact hq

theorem newK (F : ExcBaseFacts B newId initId bmB) (hT : ∀ X : String, bm.contains (.type X) = bmB.contains (.type X)) {rest : List Value} {kw : List (Str × Value)}
    (hC : h.get? C = some (excClassObj nm q C N bs bm hdct sn sub ab col dd k0 k1 k2 k3 k5 newId)) (hz : rest.length ≤ sizeLine)
    (hq : R (.ok (.ret (.ref (h.objs.size + 1)))) ⟨(h.push (W.kdv_tup rest)).push (excO C h.objs.size), g, d, t, os⟩) :
    codeAny (model prog w) A (.builtin newId ⟨.ref C :: rest, kw⟩) R ⟨h, g, d, t, os⟩ := by
  have he := F.ends
  have c1 : (Value.ref C :: bm).contains (.type B) = true := by rw [List.contains_cons, hT, F.hasB, Bool.or_true]
  have c2 : (Value.ref C :: bm).contains (.type "AttributeError") = false := by rw [List.contains_cons, hT, F.noAttr]; rfl
  have c3 : (Value.ref C :: bm).contains (.type "NameError") = false := by rw [List.contains_cons, hT, F.noName]; rfl
  refine codeAny_builtinAt F.entry ?_
  unfold Builtin.«BaseException.__new__»
  refine wpAt_bind ?_
  show wpAt _ _ _ (stack >>= _) _ _ _
  refine wpAt_bind (wpAt_stack fun p below => wpAt_of_wpAny ?_)
  wp_walk
  refine wpAt_of_wpAny ?_
  rw [F.owner]
  repeat (first
    | with_reducible refine wpAny_madeHere_exc F.canon hC ?_
    | with_reducible refine wpAny_loadPart_at hC ?_
    | (with_reducible refine wpAny_isSubtype_exc hC ?_; first | rw [c1] | rw [c2] | rw [c3])
    | wp_step)
  show R _ _
  rw [Heap.size_push]
  exact hq

theorem tcallK (F : ExcBaseFacts B newId initId bmB) (hT : ∀ X : String, bm.contains (.type X) = bmB.contains (.type X)) {rest : List Value} {kw : List (Str × Value)} {fI : Addr} {Q : Fin → Shared → Prop}
    (hC : h.get? C = some (excClassObj nm q C N bs bm hdct sn sub ab col dd k0 k1 k2 k3 k5 newId))
    (hi : W.Looks (model prog w) h (typeLookup (.ref C) "__init__") (some (.ref fI))) (hb : ∀ self, W.Looks (model prog w) h (bindSpecial (.ref fI) self) (.ref fI, [self])) (hz : rest.length ≤ sizeLine)
    (hq : codeAny (model prog w) A (.call (.ref fI) ⟨.ref (h.objs.size + 1) :: rest, kw⟩)
      (fun r s' => match r with | .ok (.ret v) => v = .none ∧ Q (.done (.ret (.ref (h.objs.size + 1)))) s' | .ok _ => False | .error e => E e s')
      ⟨(h.push (W.kdv_tup rest)).push (excO C h.objs.size), g, d, t, os⟩) :
    wpAny (model prog w) A (Builtin.«type.__call__» ⟨.ref C :: rest, kw⟩) Q E ⟨h, g, d, t, os⟩ := by
  repeat (first | with_reducible refine wpAny_loadPart_at hC ?_ | with_reducible refine wpAny_madeBy_exc hC ?_ | wp_step)
  refine codeAny_call_builtin_code (Code.quiet_builtin _ F.quiet) (check_newK F hT hC ?_)
  refine newK F hT hC hz ?_
  show wpAny _ _ _ _ _ _
  have kp : ∀ b o, h.get? b = some o → ((h.push (W.kdv_tup rest)).push (excO C h.objs.size)).get? b = some o := fun b o e => Heap.get?_push_of_some _ (Heap.get?_push_of_some _ e)
  have hC1 := kp _ _ hC
  have hg1 : ((h.push (W.kdv_tup rest)).push (excO C h.objs.size)).get? (h.objs.size + 1) = some (excO C h.objs.size) := by heap_get
  have hcC : (Value.ref C :: bm).contains (.ref C) = true := by simp
  have hi1 := hi.keeps kp
  have hb1 := (hb (.ref (h.objs.size + 1))).keeps kp
  unfold isInstance
  repeat (first | with_reducible refine wpAny_loadPart_at hg1 ?_ | (with_reducible refine wpAny_isSubtype_exc hC1 ?_; rw [hcC]) | wp_step)
  show wpAny _ _ (typeLookup (.ref C) _) _ _ _
  refine hi1.at ?_
  refine wpAny_holding (wpAny_bind (hb1.at ?_))
  refine wpAny_bind (wpAny_call (codeAny_mono hq fun r s' z => ?_))
  rcases r with e | (v | _ | _ | _) <;> first | exact z | exact z.elim | skip
  obtain ⟨rfl, z⟩ := z
  first
    | exact wpAny_pure (wpAny_pure z)
    | (wp_walk; exact z)

theorem callK (F : ExcBaseFacts B newId initId bmB) (hT : ∀ X : String, bm.contains (.type X) = bmB.contains (.type X)) {rest : List Value} {kw : List (Str × Value)} {fI : Addr}
    (hC : h.get? C = some (excClassObj nm q C N bs bm hdct sn sub ab col dd k0 k1 k2 k3 k5 newId))
    (hi : W.Looks (model prog w) h (typeLookup (.ref C) "__init__") (some (.ref fI))) (hb : ∀ self, W.Looks (model prog w) h (bindSpecial (.ref fI) self) (.ref fI, [self])) (hz : rest.length ≤ sizeLine)
    (hq : codeAny (model prog w) (A.under (.builtin "type.__call__" ⟨.ref C :: rest, kw⟩)) (.call (.ref fI) ⟨.ref (h.objs.size + 1) :: rest, kw⟩) (W.InitBack (h.objs.size + 1) R)
      ⟨(h.push (W.kdv_tup rest)).push (excO C h.objs.size), g, d, t, os⟩) :
    codeAny (model prog w) A (.call (.ref C) ⟨rest, kw⟩) R ⟨h, g, d, t, os⟩ := by
  have f1 := tc_lookup
  have f2 := tc_bind (.ref C)
  have hTy : (⟨h, g, d, t, os⟩ : Shared).TypeIs (.ref C) "type" := ⟨_, hC, rfl⟩
  refine codeAny_of_tree ?_
  show wpAny _ _ (callAny (.ref C) _) _ _ _
  repeat (any_goals (first | assumption | with_reducible refine wpAny_loadPart_at hC ?_ | wp_step))
  refine ⟨rfl, ?_⟩
  refine codeAny_call_builtin_at (Code.quiet_builtin _ (by decide +kernel)) entry_typeCall (wpAny_check_type_call_sub hC (tcallK F hT hC hi hb hz ?_))
  refine codeAny_mono hq fun r s' z => ?_
  rcases r with e | (v | _ | _ | _) <;> exact z
end
end GrX
end PySem

set_option Elab.async false
set_option maxRecDepth 100000
set_option maxHeartbeats 4000000
set_option linter.all false
namespace Gr
open PySem PySem.Spec PyProof.Rows L2

/-! ### own exceptions as values -/
section
variable {X : Cx} {CX : CXT} {k : Nat} {C fI : Addr} {fd : FuncData} {ps : List Str} {sp : Sp}
/-- C(..) with C's own __init__: a new exception, kept -/
theorem run_exv {pins : List (Addr × Obj)} {σ : L2.St} {H : Hp} {s : Shared} {Q : VK} {rest ws : List Value} {kw : List (Str × Value)} {vs : List V}
    (T : OexC X.K C) (iC : PySem.W.findIn X.K (.ref C) "__init__" = some (some (.ref fI))) (tI : PySem.W.typeIn X.K (.ref fI) = some (.type "function"))
    (F1 : FnOk X.prog X.w X.K X.mg X.base CX k fI fd ps sp) (hr : Room (k + 1) X.A) (hx : Passes CX X (fun _ _ _ => False))
    (hb : ∀ (s : Shared) (self : Value), X.K.In s.heap → BindsTo s fd ⟨self :: rest, kw⟩ (ps.zip (self :: ws))) (r : Vals vs ws) (hz : rest.length ≤ 1000)
    (I : Inv X pins σ H s) (h : ∀ a, H a = none → sp (.ref a :: vs) (upd H a (exo a C none)) (fun v H2 => v = .non ∧ Q (.ref a) H2) (fun _ _ _ => False)) :
    wpAny (model X.prog X.w) X.A (call (.ref C) rest kw) (EP X pins σ Q) X.xe s := by
  obtain ⟨nm, q, N, bs, bm, sn, sub, ab, col, dd, k0, k1, k2, k3, k5, hC, hbm⟩ := T.cls
  obtain ⟨hp, g, dr, tk, os⟩ := s
  have hsz : hp.objs.size ≤ hp.objs.size + 1 := Nat.le_succ _
  have hn : H (hp.objs.size + 1) = none := I.hok.fresh hsz
  have hq := h (hp.objs.size + 1) hn
  have kk : ∀ b o, hp.get? b = some o → ((hp.push (PySem.W.kdv_tup rest)).push (PySem.HandSPX.excO C hp.objs.size)).get? b = some o :=
    fun b o e => Heap.get?_push_of_some _ (Heap.get?_push_of_some _ e)
  have hget : ((hp.push (PySem.W.kdv_tup rest)).push (PySem.HandSPX.excO C hp.objs.size)).get? (hp.objs.size + 1) = some (PySem.HandSPX.excO C hp.objs.size) := by heap_get
  have I2 : Inv X pins σ (upd H (hp.objs.size + 1) (exo (hp.objs.size + 1) C none)) ⟨(hp.push (PySem.W.kdv_tup rest)).push (PySem.HandSPX.excO C hp.objs.size), g, dr, tk, os⟩ :=
    I.laid (t' := tk) (a := hp.objs.size + 1) (o := exo (hp.objs.size + 1) C none) kk hsz (exo_ok hget)
  have r2 : Vals (V.ref (hp.objs.size + 1) :: vs) (Value.ref (hp.objs.size + 1) :: ws) := .cons rfl r
  have hus : rest.length ≤ sizeLine := by
    rw [sizeLine_eq]
    omega
  refine wpAny_call (PySem.GrX.callK F.excBase_ValueError (fun Y => PySem.HandSPX.refsVE_contains Y bm hbm) (I.kIn _ _ hC) (PySem.W.looks_findIn I.kIn iC) (fun self => PySem.W.bind_fn I.kIn self tI) hus
    (codeAny_mono (F1.run _ X.stack _ _ ⟨Value.ref (hp.objs.size + 1) :: rest, kw⟩ (Value.ref (hp.objs.size + 1) :: ws) _ _ (fun _ _ _ => False) (hr.make C rest kw) (I2.env0.make C rest kw) (hb _ _ I2.kIn) r2 hq) fun rr s' hq' => ?_))
  match rr, hq' with
  | .error er, hq' => exact hx pins σ _ _ er s' I2 hq'
  | .ok (.ret u), hq' =>
    obtain ⟨v, H', I3, rv, ev, q3⟩ := I2.after hq'
    subst ev
    exact ⟨rv, ⟨V.ref (hp.objs.size + 1), H', I3, rfl, q3⟩⟩

/-- what C(e) asks -/
def tExv (C : Addr) (sp : Sp) (te : TE) : TE := fun σ H Q => te σ H fun y H1 => ∀ a, H1 a = none → sp [.ref a, y] (upd H1 a (exo a C none)) (fun v H2 => v = .non ∧ Q (.ref a) H2) (fun _ _ _ => False)
/-- how __init__(self, f) binds, by position and by name -/
structure Bnd1 (K : PySem.W.Frag) (fd : FuncData) (ps : List Str) (f : Str) : Prop where
  pos : ∀ (s : Shared) (self u : Value), K.In s.heap → BindsTo s fd ⟨[self, u], []⟩ (ps.zip [self, u])
  kw : ∀ (s : Shared) (self u : Value), K.In s.heap → BindsTo s fd ⟨[self], [(f, u)]⟩ (ps.zip [self, u])
variable {x f : Str} {p pos kpos : Pos} {e : Expr} {te : TE}
theorem pe_exv (T : OexC X.K C) (iC : PySem.W.findIn X.K (.ref C) "__init__" = some (some (.ref fI))) (tI : PySem.W.typeIn X.K (.ref fI) = some (.type "function"))
    (F1 : FnOk X.prog X.w X.K X.mg X.base CX k fI fd ps sp) (hr : Room (k + 1) X.A) (hx : Passes CX X (fun _ _ _ => False)) (hb : Bnd1 X.K fd ps f)
    (hg : Gl X x) (hm : X.mg x = some (.ref C)) (he : PE X e te) (hdb : (x == ("__debug__" : Str)) = false := by decide)
    (hs : starEach [e] X.env = (false, eval e X.env) :: starEach [] X.env := by rfl) (hpl : (backTo pos (starEach [] X.env)).any (·.1) = false := by rfl) :
    PE X (.Call (.Name x p) [e] [] pos) (tExv C sp te) := by
  have ha : PA X [e] (tCons te tNil) := pa_cons he pa_nil hs
  refine ⟨fun pins s σ H Q I h => ?_⟩
  refine wpAny_Call_Name_kw (ld_glob I hg hm ?_ hdb)
  refine PySem.W.callWith_K (h₀ := X.base) I.ok.mod.kin T.kC (thn (ha.run pos pins s σ H (fun vs H1 => match vs with
    | [y] => ∀ a, H1 a = none → sp [.ref a, y] (upd H1 a (exo a C none)) (fun v H2 => v = .non ∧ Q (.ref a) H2) (fun _ _ _ => False)
    | _ => False) I h) fun us s1 hh => ?_) hs hpl
  obtain ⟨vs, H1, I1, r, q⟩ := hh
  match vs, r, q with
  | [y], r, q =>
    obtain ⟨u, rfl, ru⟩ := vals1 r
    exact ⟨I1.kIn, run_exv (rest := [u]) (ws := [u]) (kw := []) (vs := [y]) T iC tI F1 hr hx (fun s self k => hb.pos s self u k) r (by simp) I1 q⟩
/-- C(f = e) -/
theorem pe_exk (T : OexC X.K C) (iC : PySem.W.findIn X.K (.ref C) "__init__" = some (some (.ref fI))) (tI : PySem.W.typeIn X.K (.ref fI) = some (.type "function"))
    (F1 : FnOk X.prog X.w X.K X.mg X.base CX k fI fd ps sp) (hr : Room (k + 1) X.A) (hx : Passes CX X (fun _ _ _ => False)) (hb : Bnd1 X.K fd ps f)
    (hg : Gl X x) (hm : X.mg x = some (.ref C)) (he : PE X e te) (hdb : (x == ("__debug__" : Str)) = false := by decide) :
    PE X (.Call (.Name x p) [] [⟨some f, e, kpos⟩] pos) (tExv C sp te) := by
  have ha : PK X [⟨some f, e, kpos⟩] (tCons te tNil) := pk_cons he pk_nil
  refine ⟨fun pins s σ H Q I h => ?_⟩
  refine wpAny_Call_Name_kw (ld_glob I hg hm ?_ hdb)
  refine PySem.W.callWith_KW0 (h₀ := X.base) I.ok.mod.kin T.kC rfl (thn (ha.run pos pins s σ H (fun vs H1 => match vs with
    | [y] => ∀ a, H1 a = none → sp [.ref a, y] (upd H1 a (exo a C none)) (fun v H2 => v = .non ∧ Q (.ref a) H2) (fun _ _ _ => False)
    | _ => False) I h) fun us s1 hh => ?_) rfl
  obtain ⟨vs, H1, I1, r, q⟩ := hh
  match vs, r, q with
  | [y], r, q =>
    obtain ⟨u, rfl, ru⟩ := vals1 r
    exact ⟨I1.kIn, run_exv (rest := []) (ws := [u]) (kw := [(f, u)]) (vs := [y]) T iC tI F1 hr hx (fun s self k => hb.kw s self u k) r (by simp) I1 q⟩
end
end Gr

set_option Elab.async false
set_option maxRecDepth 100000
set_option maxHeartbeats 4000000
set_option linter.all false
namespace PySem
namespace GrX
open PySem.W PySem.Calls PyProof.Rows
section
variable {prog : Program} {w : World} {A : Around} {E : Value → Shared → Prop} {s : Shared} {K : Frag} {x D : Addr} {ox : Obj} {od : Option Obj}
theorem findObj_any {C : Addr} {name : Str} {a g : Value} (hc : (clsIn K C).isSome = true) (ha : findIn K (.ref C) name = some (some a)) (hg : specialIn K a "__get__" = some (some g)) (ht : takesIn K a = some true) :
    findObj K C od name = some (.bind g a) := by
  obtain ⟨cd, hc⟩ := Option.isSome_iff_exists.mp hc
  unfold findObj
  rw [hc, Option.bind_some, ha, Option.bind_some]
  simp [hg, ht]
/-- x.__class__, x an error of the class at D, its dict whatever it is -/
theorem class_any {Q : Option Value → Shared → Prop} (hga : findIn K (.ref D) "__getattribute__" = some (some (.builtin "BaseException.__getattribute__"))) (hgt : findIn K (.ref D) "__getattr__" = some none) (hsub : subIn K (.ref D) (.type "BaseException") = some true)
    (hdct : hasDictIn K D = true) (ha : findIn K (.ref D) "__class__" = some (some (.builtin "object.__class__")))
    (hn : specialIn K (.builtin "object.__class__") "__get__" = some (some (.builtin "getset_descriptor.__get__"))) (htk : takesIn K (.builtin "object.__class__") = some true) (hm : mroIn K D (.type "object") = some true)
    (X : K.In s.heap) (I : InstAt s.heap x ox D od) (h : Q (some (.ref D)) { s with toks := s.toks + 1 }) : wpAny (model prog w) A (getAttr? (.ref x) "__class__") Q E s := by
  have hf : findObj K D od "__class__" = some (.bind (.builtin "getset_descriptor.__get__") (.builtin "object.__class__")) :=
    findObj_any (by obtain ⟨cd, hc, _⟩ := any_some hdct; rw [hc]; rfl) ha hn htk
  obtain ⟨hp, g, d, t, os⟩ := s
  have T0 := I.type (M := model prog w)
  have T1 := looks_findIn (M := model prog w) X hga
  have T2 := looks_findIn (M := model prog w) X hgt
  have T3 := looks_find (M := model prog w) X I hf
  have sb : Looks (model prog w) hp (isInstance (.ref x) (.type "BaseException")) true := T0.andThen (looks_subIn X hsub)
  have e0 : (false && onTheHeap (Value.builtin "BaseException.__getattribute__")) = false := rfl
  have e2 : (Value.builtin "BaseException.__getattribute__" == Value.builtin "object.__getattribute__") = false := by decide +kernel
  have e1 : (onTheHeap (Value.ref D) && Value.builtin "BaseException.__getattribute__" == Value.builtin "object.__getattribute__") = false := by rw [e2]; rfl
  unfold getAttr? getAttrBy? getAttrBy
  refine wpAny_bind (wpAny_mkText (wpAny_bind (wpAny_attempt (wpAny_holding (wpAny_bind (T0.at (wpAny_bind (T1.at ?_))))))))
  show wpAny _ _ (if (onTheHeap (Value.ref D) && Value.builtin "BaseException.__getattribute__" == Value.builtin "object.__getattribute__") = true then _ else _) _ _ _
  rw [e1, if_neg Bool.false_ne_true]
  unfold getAttrByItsOwn hookBefore
  refine wpAny_bind ?_
  rw [if_pos (show onTheHeap (Value.ref D) = true from rfl)]
  refine T2.at ?_
  refine wpAny_bind (wpAny_attempt (wpAny_holding ?_))
  unfold callGetattribute
  rw [e0, if_neg Bool.false_ne_true]
  unfold boundAndCalled
  rw [PySem.F.excAttr_ValueError.ga.bind (.ref x)]
  refine wpAny_bind (wpAny_pure ?_)
  show wpAny _ _ (call (.builtin "BaseException.__getattribute__") [.ref x, .str "__class__" t]) _ _ _
  refine wpAny_call (codeAny_call_builtin PySem.F.excAttr_ValueError.ga.plain PySem.F.entry_bexc_ga ?_)
  refine @check_slot (model prog w) _ _ ⟨hp, g, d, t + 1, os⟩ "BaseException.__getattribute__" "BaseException" "__getattribute__" (.ref x) [.str "__class__" t] [] _ (by decide +kernel) (by decide +kernel) sb (PySem.F.args_bexc_ga (.ref x) (.str "__class__" t)) ?_
  unfold Builtin.«object.__getattribute__»
  refine wpAny_bind (wpAny_of_eq (a := ((Value.ref x : Value), [Value.str "__class__" t])) (by first | rfl | (simp only [slotArgs]; rfl)) ?_)
  refine wpAny_bind (wpAny_pure (wpAny_bind (T0.at (wpAny_bind (T3.at ?_)))))
  show wpAny _ _ (holding [Value.builtin "object.__class__"] (call (.builtin "getset_descriptor.__get__") [.builtin "object.__class__", .ref x, .ref D]) >>= ret) _ _ _
  refine wpAny_bind (wpAny_holding (wpAny_call (class_get (s := ⟨hp, g, d, t + 1, os⟩) (ox := ox) (od := od) X I hm ?_)))
  refine wpAny_pure ?_
  show wpAny _ _ (handedOut (.ref D)) _ _ _
  rw [handedOut_of (v := .ref D) rfl]
  first
    | exact wpAny_pure (wpAny_pure h)
    | exact wpAny_pure h
    | exact wpAny_pure (wpAny_bind (wpAny_pure (wpAny_pure h)))
theorem kitx_any (C : L2.ExcC K D) : KitX K (.ref x) (.ref D) (fun h => ∃ ox od, InstAt h x ox D od) where
  ty := fun _ _ _ ⟨_, _, I⟩ => I.type
  it := fun _ _ X _ => by
    obtain ⟨cdD, hcD, _⟩ := any_some C.hd
    unfold clsIn at hcD
    split at hcD
    · rename_i c' d' cd' sl' ho
      intro A' Q' E' s' k q
      unfold isType loadHead
      exact wpAny_bind (wpAny_loadPart (k _ _ (X _ _ ho)) (wpAny_pure q))
    · cases hcD
  ne := fun h tp dd its n sl X htp => by
    obtain ⟨cdD, hcD, _⟩ := any_some C.hd
    refine Bool.eq_false_iff.mpr fun q => ?_
    have e : D = tp := Value.ref.inj (beq_iff_eq.mp q)
    subst e
    unfold clsIn at hcD
    split at hcD
    · rename_i c' d' cd' sl' ho
      have z := (X _ _ ho).symm.trans htp
      cases z
    · cases hcD
  ca := fun X ⟨_, _, I⟩ k => class_any C.hg C.hk C.hs C.hd C.ha C.hn C.ht C.hm X I k
end
end GrX
end PySem
namespace Gr
open PySem PySem.Spec PyProof.Rows L2

/-- an error of the class at C stands at a: by its own __init__, with its dict, or of a class without one -/
inductive Err (H : Hp) (a C : Addr) : Prop
  | own (dx : Addr) (fs : List (Str × V)) (h1 : H a = some (exo a C (some dx))) (h2 : H dx = some (exd dx fs))
  | bare (h1 : H a = some (ExO (.ref C) a))
theorem Err.same {H H' : Hp} {a C : Addr} (e : Same H H') (h : Err H a C) : Err H' a C := by
  cases h with
  | own dx fs h1 h2 => exact .own dx fs (e _ _ h1) (e _ _ h2)
  | bare h1 => exact .bare (e _ _ h1)

section
variable {X : Cx} {pins : List (Addr × Obj)} {σ : L2.St} {H : Hp} {s : Shared}
theorem Err.inst (I : Inv X pins σ H s) {a C : Addr} (h : Err H a C) : ∃ ox od, PySem.W.InstAt s.heap a ox C od := by
  cases h with
  | own dx fs h1 h2 =>
    obtain ⟨t1, ho⟩ := exo_at I.hok h1
    obtain ⟨mA, hns, rel⟩ := exd_at I.hok h2
    obtain ⟨od, _, _, hod, _, _⟩ := hns.count (within_of rel)
    exact ⟨_, some od, ho, rfl, rfl, hod⟩
  | bare h1 =>
    obtain ⟨⟨oe, vs, he, hz, hd, _⟩, _, _⟩ := I.hok a _ h1
    obtain ⟨c, d, dt, sl⟩ := oe
    obtain ⟨z1, z2⟩ := hz
    dsimp only at z1 z2 hd
    subst z1 z2 hd
    exact ⟨_, none, he, rfl, rfl, trivial⟩
/-- isinstance(e, c) -/
def rIsX (K : PySem.W.Frag) : List V → Hp → VK → Prop := fun xs H Q => ∃ (a C : Addr) (c : V) (u : Value) (b : Bool), xs = [.ref a, c] ∧ Err H a C ∧ ExcC K C ∧ ClsV c u ∧ PySem.W.kitOne K (.ref C) u = some b ∧ Q (.bl b) H
theorem call_isX : CallR X (.builtin "isinstance") (rIsX X.K) := by
  intro pins s σ H xs us Q I r h
  obtain ⟨a, C, c, u, b, rfl, he, hc, k, e, q⟩ := h
  obtain ⟨u1, u2, rfl, r1, r2⟩ := vals2 r
  cases (show u1 = Value.ref a from r1)
  have e2 := k.eq r2
  subst e2
  exact PySem.W.kia_one (PySem.GrX.kitx_any hc) I.kIn (he.inst I) e (fun z => nomatch z) fun tk => ⟨.bl b, H, I.tok tk, rfl, q⟩
/-- isinstance(e, (c1, c2, ..)) -/
def rIsXT (K : PySem.W.Frag) : List V → Hp → VK → Prop := fun xs H Q => ∃ (a C tp : Addr) (cs : List V) (us : List Value) (b : Bool), xs = [.ref a, .ref tp] ∧ Err H a C ∧ ExcC K C ∧ H tp = some (.tup cs) ∧ Paired ClsV cs us ∧ PySem.W.kitAny K (.ref C) us = some b ∧ Q (.bl b) H
theorem call_isXT : CallR X (.builtin "isinstance") (rIsXT X.K) := by
  intro pins s σ H xs us Q I r h
  obtain ⟨a, C, tp, cs, ws, b, rfl, he, hc, hT, k, e, q⟩ := h
  obtain ⟨u1, u2, rfl, r1, r2⟩ := vals2 r
  cases (show u1 = Value.ref a from r1)
  cases (show u2 = Value.ref tp from r2)
  obtain ⟨_, its, rv, o, h1, h2, n, h3⟩ := (show ObjOk X.prog X.w H s.heap tp (.tup cs) from I.hok tp _ hT)
  have e3 := ClsV.all k rv
  subst e3
  obtain ⟨oc, od, dt, sl⟩ := o
  simp only at h2 h3
  subst h2 h3
  exact PySem.W.kia_tup (PySem.GrX.kitx_any hc) I.kIn (he.inst I) h1 e (fun z => nomatch z) fun tk => ⟨.bl b, H, I.tok tk, rfl, q⟩

/-- e.f of an error that is kept -/
def tXfv (K : PySem.W.Frag) (f : Str) (te : TE) : TE := fun σ H Q => te σ H fun x H1 => ∃ (a C dx : Addr) (fs : List (Str × V)) (v : V), x = .ref a ∧ H1 a = some (exo a C (some dx)) ∧ H1 dx = some (exd dx fs) ∧
  XfC K C ∧ PySem.W.findIn K (.ref C) f = some none ∧ fs.lookup f = some v ∧ Q v H1
theorem pe_xfv {e : Expr} {te : TE} {pos : Pos} {n : Str} (he : PE X e te) (hb : attributeBase e n X.env (eval e X.env) = eval e X.env := by rfl) : PE X (.Attribute e n pos) (tXfv X.K n te) := by
  refine ⟨fun pins s σ H Q I h => attr_of hb (thn (he.run pins s σ H _ I h) fun u s1 hh => ?_)⟩
  obtain ⟨x, H1, I1, rx, a, C, dx, fs, v, ex, ea, ed, T, hno, l, q⟩ := hh
  subst ex
  obtain rfl : u = Value.ref a := rx
  obtain ⟨t1, ho⟩ := exo_at I1.hok ea
  obtain ⟨mA, hns, hr⟩ := exd_at I1.hok ed
  obtain ⟨od, hod, hl⟩ := lookIn_ns hns
  obtain ⟨w', hw, rw'⟩ := RelO.some_of (v := v) (o := mA n) (by rw [← l]; exact hr n)
  exact HandSPX.exc_get I1.kIn ⟨ho, rfl, rfl, hod⟩ T.ga T.gg T.exC (PySem.W.findObj_own T.hdC hno rfl (by rw [hl, hw])) (handed_of rw') ⟨v, H1, I1.tok _, rw', q⟩
/-- C(), an own class without __init__ -/
theorem pe_exc0 {C : Addr} {bmB : List Value} {B newId initId : String} {x : Str} {p pos : Pos} (F : ExcBaseFacts B newId initId bmB) (q : PySem.W.excIn X.K C bmB newId = true) (gC : X.mg x = some (.ref C)) (kC : PySem.W.keepIn X.K (.ref C) = true) (hg : Gl X x)
    (hdb : (x == ("__debug__" : Str)) = false := by decide) :
    PE X (.Call (.Name x p) [] [] pos) (fun σ H Q => ∀ a, H a = none → Q (.ref a) (upd H a (ExO (.ref C) a))) := by
  refine ⟨fun pins s σ H Q I h => wpAny_Call_Name_kw (ld_glob I hg gC (PySem.W.callWith_K0 I.kIn kC ?_) hdb)⟩
  show wpAny _ _ (call (.ref C) []) _ _ _
  obtain ⟨bm, N, nm, qn, bs, hdct, sn, sub, ab, col, dd, k0, k1, k2, k3, k5, mN, hC, hN, hni, T⟩ := exc_obj I.kIn q
  obtain ⟨hp, g, d, t, os⟩ := s
  refine wpAny_call_exc_subT F T hC hN hni (fun h' a hm => ?_) (by show 0 ≤ sizeLine; exact Nat.zero_le _)
  have hn : H a = none := I.hok.gone hm.new
  obtain ⟨t, ht, _, _⟩ := hm.there
  exact ⟨.ref a, upd H a (ExO (.ref C) a), I.laidN hm.keeps hm.new hn (exO_ok ht ⟨rfl, rfl⟩ rfl rfl rfl (show 4 < 6 by decide)), rfl, h a hn⟩
end
end Gr

set_option Elab.async false
set_option maxRecDepth 100000
set_option maxHeartbeats 4000000
set_option linter.all false
/-! Ours: the law's call, by a promise for calls where no repr is under way. -/
namespace Gr
open PySem PySem.Spec PyProof.Rows L2

/-- the law's own call behind the top -/
theorem law_callQ {P : Program} {w : World} {K : PySem.W.Frag} {mg mb : Str → Option Value} {k : Nat} {fa a : Addr} {fd : FuncData} {x : Str} {sp : Sp} {s₁ : Shared} {vs : List Value} {ns : List Int}
    (KX : K.In s₁.heap) (hns : s₁.heap.Ns mainGlobals mg) (hb : s₁.heap.Ns builtinsNs mb) (hbb : ∀ x : Str, x ≠ "__name__" → mb x = bootBuiltins x) (hlim : s₁.heap.NoLimit) (hg : s₁.gens = #[])
    (ha : s₁.heap.get? a = some { cls := .type "list", data := .seq vs.toArray }) (hi : IntsAre vs ns) (hl : ns.length ≤ sizeLine) (hr : Room k callerA)
    (F : ∀ base : Heap, K.In base → base.Ns mainGlobals mg → FnQ P w K mg base CX0 k fa fd [x] sp) (hbind : ∀ (s : Shared) (u : Value), BindsTo s fd ⟨[u], []⟩ [(x, u)])
    (hsp : ∀ H : Hp, Only H → SqL K H a (ns.map V.int) → sp [.ref a] H (fun v _ => v = .bl true) fun _ _ _ => False) :
    codeAny (model P w) callerA (.call (.ref fa) ⟨[.ref a], []⟩) (fun r s' => r = .ok (.ret (.bool true)) ∧ OldK s₁.heap s'.heap ∧ s'.os = s₁.os ∧ AllBare s'.gens) s₁ := by
  have rv := vals_ints hi
  have lenV := hi.length
  have core : ∀ H : Hp, Only H → SqL K H a (ns.map V.int) → HOk P w H s₁.heap → (∀ b, H b ≠ none → b = a) → (H a ≠ none → K.lookup a = none) →
      codeAny (model P w) callerA (.call (.ref fa) ⟨[.ref a], []⟩) (fun r s' => r = .ok (.ret (.bool true)) ∧ OldK s₁.heap s'.heap ∧ s'.os = s₁.os ∧ AllBare s'.gens) s₁ := by
    intro H hO hS hok hA hK
    have isA : ∀ {b : Addr} {u : HO}, H b = some u → b = a := fun {b u} q => hA b fun z => by
      rw [q] at z
      cases z
    have seen : ∀ {b : Addr} {o : Obj}, s₁.heap.get? b = some o → H b = none → (hidT s₁.heap H).get? b = some o := fun e n => hidT_get e n
    have noDict : ∀ {b : Addr} {o : Obj} {es : Array DictEntry} {ep : Nat}, s₁.heap.get? b = some o → o.data = .dict es ep → H b = none := fun {b o es ep} e d => by
      cases q : H b with
      | none => rfl
      | some u =>
        have e' := isA q
        subst e'
        rw [ha] at e
        cases e
        cases (show Data.seq vs.toArray _ = Data.dict es ep from d)
    have nsK : ∀ {b : Addr} {m : Str → Option Value}, s₁.heap.Ns b m → (hidT s₁.heap H).Ns b m := fun {b m} ⟨o, es, ep, e, d, r⟩ => ⟨o, es, ep, seen e (noDict e d), d, r⟩
    have hKb : K.In (hidT s₁.heap H) := fun b o e => seen (KX b o e) (by
      cases q : H b with
      | none => rfl
      | some u =>
        have e' := isA q
        subst e'
        rw [hK (by rw [q]; simp)] at e
        cases e)
    have hM : Mod K mg (hidT s₁.heap H) := ⟨hKb, nsK hns, ⟨mb, nsK hb, hbb⟩, let ⟨mc, h1, h2⟩ := hlim; ⟨mc, nsK h1, h2⟩⟩
    have noF : ∀ b, b ∉ frs ([] : List Env) := fun b z => nomatch z
    have e0 : Env0 P w K mg (hidT s₁.heap H) callerA [] s₁ H := ⟨rfl, hM, fun b o e => of_hidT e, Nat.le_of_eq (hidT_size _ _), trivial, fun b z => absurd z (noF b), hok, .of_eq hg⟩
    refine codeAny_mono ((F _ hKb (nsK hns)).run callerA [] s₁ H ⟨[.ref a], []⟩ [.ref a] [.ref a] _ _ rfl hr e0 (hbind s₁ (.ref a)) (.cons rfl .nil) (hsp H hO hS)) fun r s' h => ?_
    match r, h with
    | .error e, h => exact False.elim h
    | .ok (.ret u), h =>
      obtain ⟨v, H', os, bare, un, hok', r', q⟩ := h
      have q' : v = .bl true := q
      subst q'
      obtain rfl : u = Value.bool true := r'
      refine ⟨rfl, OldK.of_keep fun b o e => ?_, os, bare⟩
      cases q : H b with
      | none => exact un.keep b o e q (noF b) (fun z => nomatch z)
      | some u =>
        rcases hO b with z | ⟨ob, xs, z⟩
        · rw [q] at z
          cases z
        · obtain ⟨e1, _⟩ := hok b _ z
          obtain ⟨e2, _⟩ := hok' b _ (un.frzs b ob _ z)
          rw [e] at e1
          cases e1
          exact e2
  cases hk : K.lookup a with
  | some o =>
    have e := KX a o hk
    rw [ha] at e
    cases e
    exact core (fun _ => none) (fun _ => .inl rfl) (.inr ⟨_, vs.toArray, _, hk, rfl, rfl, rfl, by rw [List.size_toArray, lenV]; exact hl, by simpa using rv⟩)
      (fun b u z => nomatch z) (fun b z => absurd rfl z) fun z => absurd rfl z
  | none =>
    have at1 : ∀ {b : Addr} {u : HO}, (if b = a then some (HO.frz { cls := .type "list", data := .seq vs.toArray } (.lst (ns.map V.int))) else none) = some u →
        b = a ∧ u = HO.frz { cls := .type "list", data := .seq vs.toArray } (.lst (ns.map V.int)) := fun {b u} z => by
      by_cases hb : b = a
      · rw [if_pos hb] at z
        exact ⟨hb, (Option.some.inj z).symm⟩
      · rw [if_neg hb] at z
        cases z
    refine core (fun b => if b = a then some (.frz { cls := .type "list", data := .seq vs.toArray } (.lst (ns.map V.int))) else none) (fun b => ?_)
      (.inl (.inr ⟨{ cls := .type "list", data := .seq vs.toArray }, if_pos rfl⟩)) (fun b u z => ?_) (fun b z => ?_) fun _ => hk
    · by_cases hb : b = a
      · exact .inr ⟨_, _, if_pos hb⟩
      · exact .inl (if_neg hb)
    · obtain ⟨rfl, rfl⟩ := at1 z
      exact ⟨ha, by rw [List.length_map]; exact hl, vs, _, rv, ha⟩
    · by_cases hb : b = a
      · exact hb
      · exact absurd (if_neg hb) z
/-- what the head leaves, from such a promise -/
theorem walk_ofQ {l : PySem.W.OpenLaw} {n k : Nat} {q : Program} {loose : List Str} {XP : (Str → Option Value) → Heap → Prop} {YP : World → Heap → Prop} {d : DefRec} {K : Params → PySem.W.Frag} {sp : PySem.W.Frag → Sp} {x : Str}
    (hn : l.most = some n) (hn2 : n ≤ sizeLine) (hdf : d.params.defaults = []) (hr : Room k callerA)
    (hY : ∀ (w : World) (h : Heap), YP w h → (K w.params).In h)
    (F : ∀ (w : World) (mg : Str → Option Value) (fa : Addr) (h : Heap), (K w.params).In h → h.Ns mainGlobals mg → mg d.name = some (.ref fa) →
      ∃ fd : FuncData, (∀ (s : Shared) (u : Value), BindsTo s fd ⟨[u], []⟩ [(x, u)]) ∧
        ∀ base : Heap, (K w.params).In base → base.Ns mainGlobals mg → FnQ l.prog w (K w.params) mg base CX0 k fa fd [x] (sp (K w.params)))
    (hsp : ∀ (K : PySem.W.Frag) (H : Hp) (a : Addr) (ns : List Int), ns.length ≤ n → Only H → SqL K H a (ns.map V.int) → sp K [.ref a] H (fun v _ => v = .bl true) fun _ _ _ => False) :
    PySem.W.WalkO q loose XP YP l.row.toRowW d [] (fun f vs => PySem.call f vs) := by
  refine Att.attach_call hn hdf fun w s₀ s₁ mg mb fa o pm cd doc a vs ns G Y ho hd hcd hmg hobj hints hlen hg => ?_
  have KX := hY w _ Y
  obtain ⟨fd, hb, hF⟩ := F w mg fa _ KX G.T.g hmg
  exact law_callQ KX G.T.g G.T.b G.T.builtins G.T.nolimit hg hobj hints (Nat.le_trans hlen hn2) hr hF hb fun H hO hS => hsp (K w.params) H a ns hlen hO hS
end Gr

set_option Elab.async false
set_option maxRecDepth 100000
set_option maxHeartbeats 4000000
set_option linter.all false
/-! Ours: own error classes whose __init__ keeps one value; lists of such errors; isinstance of an error against a list of classes. -/
namespace Gr
open PySem PySem.Spec PyProof.Rows L2

section
variable {X : Cx}
theorem peImp {e : Expr} {t t' : TE} (h : PE X e t) (k : ∀ σ H Q, t' σ H Q → t σ H Q) : PE X e t' := ⟨fun pins s σ H Q I q => h.run pins s σ H Q I (k σ H Q q)⟩
theorem paImp {es : List Expr} {t t' : TA} (h : PA X es t) (k : ∀ σ H Q, t' σ H Q → t σ H Q) : PA X es t' := ⟨fun pos pins s σ H Q I q => h.run pos pins s σ H Q I (k σ H Q q)⟩
end

/-! ### the text of such an __init__ -/
def iArgs (f : Str) (p1 p2 : Pos) : Arguments := { posonlyargs := [], args := [{ arg := "self", annotation := none, pos := p1 }, { arg := f, annotation := none, pos := p2 }], vararg := none, kwonlyargs := [], kw_defaults := [], kwarg := none, defaults := [] }
def iBody (f : Str) (q1 q2 q3 q4 : Pos) : List Stmt := [.Assign [.Attribute (.Name "self" q1) f q2] (.Name f q3) q4]
def iScope (f : Str) : Scope := { kind := .function, names := [(PySem.Str.ofString "self", .local), (f, .local)], isGenerator := false, isCoroutine := false, more := [] }
def Fld (f : Str) : Prop := f = "given" ∨ f = "index"

/-- the __init__ of the class at C -/
structure InitAt (K : PySem.W.Frag) (C fI : Addr) (fd : FuncData) (f : Str) : Prop where
  iC : PySem.W.findIn K (.ref C) "__init__" = some (some (.ref fI))
  tI : PySem.W.typeIn K (.ref fI) = some (.type "function")
  ex : ∃ (q : Str) (oc : Value) (od : Option Addr) (doc pm : Value) (an : Option Addr) (cdv ct : Value) (osl : Array (Option Value)) (p1 p2 q1 q2 q3 q4 : Pos),
    fd = PySem.W.fnOf "__init__" q (iArgs f p1 p2) (iBody f q1 q2 q3 q4) (iScope f) .none .none doc pm an cdv ct ∧ K.lookup fI = some ⟨oc, od, .func fd, osl⟩ ∧ PySem.W.codeIn K cdv q = true
/-- what the written part says of such a class -/
structure ErrC (K : PySem.W.Frag) (mg : Str → Option Value) (nm f : Str) (C fI : Addr) (fd : FuncData) : Prop where
  gC : mg nm = some (.ref C)
  oex : OexC K C
  xf : XfC K C
  exc : ExcC K C
  nof : PySem.W.findIn K (.ref C) f = some none
  ini : InitAt K C fI fd f
  fld : Fld f

def spInit (K : PySem.W.Frag) (f : Str) : Sp := fun vs H Q _ => ∃ (a C : Addr) (y : V), vs = [.ref a, y] ∧ OexC K C ∧ PySem.W.findIn K (.ref C) f = some none ∧ H a = some (exo a C none) ∧
  ∀ dx, H dx = none → dx ≠ a → Q .non (upd (upd H dx (exd dx [(f, y)])) a (exo a C (some dx)))
section
variable {P : Program} {w : World} {K : PySem.W.Frag} {mg : Str → Option Value} {base : Heap}
theorem scInit {f : Str} (hf : Fld f) : FnScope ["self", f] ["self", f] (iScope f) := by
  rcases hf with rfl | rfl <;> exact ⟨rfl, rfl, rfl, by decide +kernel, rfl, by decide +kernel, by decide +kernel⟩
theorem InitAt.ok {C fI : Addr} {fd : FuncData} {f : Str} (I : InitAt K C fI fd f) (hf : Fld f) : FnOk P w K mg base CX0 1 fI fd ["self", f] (spInit K f) := by
  obtain ⟨q, oc, od, doc, pm, an, cdv, ct, osl, p1, p2, q1, q2, q3, q4, rfl, lk, hcd⟩ := I.ex
  refine fn_of lk hcd (scInit hf) (fun vs H Q E h => ?_) (fun A outer s H vs Q E hr h => ?_)
  · obtain ⟨a, C, y, rfl, _⟩ := h
    rfl
  · obtain ⟨a, C, y, rfl, T, hno, ha, k⟩ := h
    rcases hf with rfl | rfl
    · refine ⟨_, PSs.nox (pss_one (ps_ost (pv 0) (pv 1))), ?_⟩
      exact ⟨_, rfl, _, rfl, a, C, rfl, T, hno, .inl ⟨ha, k⟩⟩
    · refine ⟨_, PSs.nox (pss_one (ps_ost (pv 0) (pv 1))), ?_⟩
      exact ⟨_, rfl, _, rfl, a, C, rfl, T, hno, .inl ⟨ha, k⟩⟩
theorem InitAt.bnd {C fI : Addr} {fd : FuncData} {f : Str} (I : InitAt K C fI fd f) (hf : Fld f) : Bnd1 K fd ["self", f] f := by
  obtain ⟨q, oc, od, doc, pm, an, cdv, ct, osl, p1, p2, q1, q2, q3, q4, rfl, lk, hcd⟩ := I.ex
  rcases hf with rfl | rfl <;> exact ⟨fun s self u _ => .of_eq rfl, fun s self u _ => .of_eq rfl⟩
end

/-! ### errors that are kept -/
/-- at a: an error of the class at C that keeps y under f -/
def ErrV (H : Hp) (a C : Addr) (f : Str) (y : V) : Prop := ∃ dx, H a = some (exo a C (some dx)) ∧ H dx = some (exd dx [(f, y)])
theorem ErrV.same {H H' : Hp} {a C : Addr} {f : Str} {y : V} (e : Same H H') (h : ErrV H a C f y) : ErrV H' a C f y := by
  obtain ⟨dx, h1, h2⟩ := h
  exact ⟨dx, e _ _ h1, e _ _ h2⟩
theorem ErrV.err {H : Hp} {a C : Addr} {f : Str} {y : V} (h : ErrV H a C f y) : Err H a C := by
  obtain ⟨dx, h1, h2⟩ := h
  exact .own dx _ h1 h2
theorem same_init {H : Hp} {a dx : Addr} {o1 o2 o3 : HO} (ha : H a = none) (hd : upd H a o1 dx = none) : Same H (upd (upd (upd H a o1) dx o2) a o3) := fun b u e => by
  have n1 : b ≠ a := ne_of_none e ha
  have n2 : b ≠ dx := fun z => by
    rw [← z, upd_ne n1, e] at hd
    cases hd
  rw [upd_ne n1, upd_ne n2, upd_ne n1]
  exact e

section
variable {X : Cx} {nm f : Str} {C fI : Addr} {fd : FuncData} {p pos kpos ip : Pos} {i : Nat} {v : Str}
/-- C(v), v in slot i -/
def tErr (C : Addr) (f : Str) (i : Nat) : TE := fun σ H Q => ∃ y, σ[i]? = some (some y) ∧ ∀ a H2, Same H H2 → ErrV H2 a C f y → Q (.ref a) H2
theorem tErr_ok {σ : L2.St} {H : Hp} {Q : VK} (T : ErrC X.K X.mg nm f C fI fd) (h : tErr C f i σ H Q) : tExv C (spInit X.K f) (tVar i) σ H Q := by
  obtain ⟨y, hy, k⟩ := h
  refine ⟨y, hy, fun a ha => ⟨a, C, y, rfl, T.oex, T.nof, upd_same, fun dx hd nd => ⟨rfl, k a _ (same_init ha hd) ⟨dx, upd_same, ?_⟩⟩⟩⟩
  rw [upd_ne nd, upd_same]
theorem pe_err (T : ErrC X.K X.mg nm f C fI fd) (hr : Room 2 X.A) (hg : Gl X nm) (he : PE X (.Name v ip) (tVar i)) (hdb : (nm == ("__debug__" : Str)) = false := by decide) :
    PE X (.Call (.Name nm p) [.Name v ip] [] pos) (tErr C f i) :=
  peImp (pe_exv T.oex T.ini.iC T.ini.tI (T.ini.ok T.fld) hr pass0 (T.ini.bnd T.fld) hg T.gC he hdb) fun _ _ _ q => tErr_ok T q
theorem pe_errk (T : ErrC X.K X.mg nm f C fI fd) (hr : Room 2 X.A) (hg : Gl X nm) (he : PE X (.Name v ip) (tVar i)) (hdb : (nm == ("__debug__" : Str)) = false := by decide) :
    PE X (.Call (.Name nm p) [] [⟨some f, .Name v ip, kpos⟩] pos) (tErr C f i) :=
  peImp (pe_exk T.oex T.ini.iC T.ini.tI (T.ini.ok T.fld) hr pass0 (T.ini.bnd T.fld) hg T.gC he hdb) fun _ _ _ q => tErr_ok T q
/-- C1(v), C2(v), .. -/
def tErrs (cs : List (Addr × Str)) (i : Nat) : TA := fun σ H Q => ∃ y, σ[i]? = some (some y) ∧ ∀ as H2, Same H H2 → Paired (fun c a => ErrV H2 a c.1 c.2 y) cs as → Q (as.map V.ref) H2
theorem pa_errs0 : PA X [] (tErrs [] i) := paImp pa_nil fun σ H Q ⟨y, hy, k⟩ => k [] H (Same.refl H) .nil
theorem pairedErr {H H' : Hp} {y : V} (e : Same H H') : ∀ {cs : List (Addr × Str)} {as : List Addr}, Paired (fun c a => ErrV H a c.1 c.2 y) cs as → Paired (fun c a => ErrV H' a c.1 c.2 y) cs as
  | _, _, .nil => .nil
  | _, _, .cons h t => .cons (h.same e) (pairedErr e t)
theorem pa_errs {e : Expr} {es : List Expr} {cs : List (Addr × Str)} (he : PE X e (tErr C f i)) (hr : PA X es (tErrs cs i)) (hs : starEach (e :: es) X.env = (false, eval e X.env) :: starEach es X.env := by rfl) : PA X (e :: es) (tErrs ((C, f) :: cs) i) :=
  paImp (pa_cons he hr hs) fun σ H Q ⟨y, hy, k⟩ => ⟨y, hy, fun a H1 s1 e1 => ⟨y, hy, fun as H2 s2 pr => k (a :: as) H2 (s1.trans s2) (.cons (e1.same s2) pr)⟩⟩
end

/-! ### isinstance of one error against many classes -/
section
variable {X : Cx} {nm : Str} {C : Addr} {p pos ip np : Pos} {i : Nat} {v : Str}
/-- whether the error is of each of the classes at cs -/
def kinds (C : Addr) (cs : List Addr) : List V := cs.map fun c => V.bl (decide (C = c))
def tKinds (K : PySem.W.Frag) (cs : List Addr) (i : Nat) : TA := fun σ H Q => ∃ a C, σ[i]? = some (some (.ref a)) ∧ Err H a C ∧ ExcC K C ∧ (∀ c ∈ cs, PySem.W.kitOne K (.ref C) (.ref c) = some (decide (C = c))) ∧ Q (kinds C cs) H
theorem pa_kinds0 : PA X [] (tKinds X.K [] i) := paImp pa_nil fun σ H Q ⟨a, C, _, _, _, _, k⟩ => k
theorem pa_kinds {es : List Expr} {cs : List Addr} (hI : X.mg "isinstance" = none) (hgI : Gl X "isinstance") (gC : X.mg nm = some (.ref C)) (hg : Gl X nm) (he : PE X (.Name v ip) (tVar i)) (hr : PA X es (tKinds X.K cs i))
    (hdb : (nm == ("__debug__" : Str)) = false := by decide)
    (hs : starEach (.Call (.Name "isinstance" p) [.Name v ip, .Name nm np] [] pos :: es) X.env = (false, eval (.Call (.Name "isinstance" p) [.Name v ip, .Name nm np] [] pos) X.env) :: starEach es X.env := by rfl) :
    PA X (.Call (.Name "isinstance" p) [.Name v ip, .Name nm np] [] pos :: es) (tKinds X.K (C :: cs) i) :=
  paImp (pa_cons (pe_callB call_isX hgI hI boot_isinstance (pa_cons he (pa_cons (pe_glob hg gC (v := .ref C) rfl hdb) pa_nil))) hr hs) fun σ H Q ⟨a, D, hσ, hE, hX, hk, k⟩ =>
    ⟨_, hσ, a, D, _, _, _, rfl, hE, hX, .own C, hk C List.mem_cons_self, a, D, hσ, hE, hX, fun c hc => hk c (List.mem_cons_of_mem _ hc), k⟩
end
end Gr

set_option Elab.async false
set_option maxRecDepth 100000
set_option maxHeartbeats 4000000
set_option linter.all false
/-! Ours: try with several clauses «except C as n», the same n in each. -/
namespace Gr
open PySem PySem.Spec PyProof.Rows L2
/-- an end behind the suite: the name of the clause is gone -/
def Gone (i : Nat) (D : Ends) : Ends := { nx := fun σ' H' => D.nx (σ'.set i none) H', rt := D.rt, bk := fun σ' H' => D.bk (σ'.set i none) H', ct := fun σ' H' => D.ct (σ'.set i none) H' }
def wManyAs (K : PySem.W.Frag) (i : Nat) (Wout : WX) (D : Ends) : List (Value × (Addr → Value → Option Addr → TS)) → WX
  | [] => Wout
  | (c, ts) :: r => fun cls d σ H => ∃ b, PySem.W.exmOne K cls c = some b ∧ (b = true → ∀ a, H a = none → ts a cls d (Gone i D) (σ.set i (some (.ref a))) H) ∧ (b = false → wManyAs K i Wout D r cls d σ H)
inductive HdsAs (X : Cx) (n : Str) : List ExceptHandler → List (Value × (Addr → Value → Option Addr → TS)) → Prop
  | nil : HdsAs X n [] []
  | cons {x : Str} {c : Value} {ts : Addr → Value → Option Addr → TS} {b₀ : Stmt} {suite : List Stmt} {np pos' : Pos} {hds : List ExceptHandler} {l : List (Value × (Addr → Value → Option Addr → TS))} (hc : Names X x c)
      (hsu : ∀ (a : Addr) (oe : Obj) (cls : Value) (d : Option Addr) (pn : List (Addr × Obj)), Zc cls d oe → (∃ vs, oe.data = .fields vs) → PSs (X.suite a ((a, oe) :: pn)) (b₀ :: suite) (ts a cls d)) (r : HdsAs X n hds l) :
      HdsAs X n (.ExceptHandler (some (.Name x np)) (some n) (b₀ :: suite) pos' :: hds) ((c, ts) :: l)
section
variable {X : Cx} {body : List Stmt} {h₀ : ExceptHandler} {hds : List ExceptHandler} {l : List (Value × (Addr → Value → Option Addr → TS))} {pos : Pos} {tb : WX → TS} {Wout : WX} {n : Str} {i : Nat}
theorem ps_try_manyAs (hs : X.stack = X.env :: X.outer) (hf : X.env.frame = some X.env.locals) (hN : X.N.Nodup) (hi : X.N[i]? = some n) (hln : X.env.kindOf n = some .local) (tk : Takes X Wout)
    (hb : ∀ (W : WX) (pn : List (Addr × Obj)) (xe : Value → Shared → Prop), Takes (X.tr pn xe) W → PassesOwn (model X.prog X.w) X.A X.env xe → PSs (X.tr pn xe) body (tb W))
    (hh : HdsAs X n (h₀ :: hds) l) : PS X (.Try body (h₀ :: hds) [] [] pos) (fun D σ H => tb (wManyAs X.K i Wout D l) D σ H) := by
  refine ⟨fun pins s σ H D I h => ?_⟩
  have ok := I.ok
  have hfr : X.A.frames = some (X.env :: X.outer) := by rw [ok.frames, hs]
  have hloc : Loc X.env.scope n := .inl hln
  refine wpAny_Try_except ?_
  refine wpAny_mono ((hb (wManyAs X.K i Wout D l) (X.pn ++ pins) (fun e s₁ => wpAny (model X.prog X.w) X.A (noteFrame e X.env) (fun _ s₂ => wpAny (model X.prog X.w) X.A (setFlight e none) (fun _ s₃ =>
    wpAny (model X.prog X.w) X.A (handleBy e X.env (h₀ :: hds)) (SP X pins D) X.xe s₃) X.xe s₂) X.xe s₁) (fun u s' xx => ?_) PassesOwn.looking).run [] s σ H D (I.toTry _) h) (fun f s1 hsp => ?_) (fun e s1 he => he)
  · obtain ⟨a, B, sI, pins', σ', H', cls, d, rfl, J', nb, up, sky, na, os, ag, w⟩ := xx
    have J : Inv X pins σ' H' sI := J'.ofTry ok
    have sky2 : Sky B (X.env :: X.outer) a (Zc cls d) X.env.locals s'.heap := by rw [← hs]; exact sky
    show wpAny (model X.prog X.w) X.A (noteFrame (.ref a) X.env) _ _ _
    refine Sky.land Zc.steady hfr hf sky2 fun h3 fl3 up3 => ?_
    have J3 : Inv X pins σ' H' { s' with heap := h3 } := J.landed nb fl3.1 (up.trans up3) os ag
    obtain ⟨oe3, vs3, he3, hz3, hd3⟩ := fl3.there
    have nfr : a ∉ frs (X.env :: X.outer) := fun hm => by
      obtain ⟨_, o', e', hnf⟩ := fl3.2.2.1.mem hm
      rw [he3] at e'
      cases e'
      exact hnf _ hd3
    have nL : a ≠ X.env.locals := fun z => nfr (List.mem_filterMap.mpr ⟨X.env, List.mem_cons_self, by rw [hf, z]⟩)
    have nF : a ∉ X.fs := fun hm => by
      obtain ⟨e, he, q⟩ := List.mem_filterMap.mp hm
      exact nfr (List.mem_filterMap.mpr ⟨e, List.mem_cons_of_mem _ he, q⟩)
    have S3 := J3.suite he3 hd3 na nL nF
    have go : ∀ {hds' : List ExceptHandler} {l' : List (Value × (Addr → Value → Option Addr → TS))}, HdsAs X n hds' l' → wManyAs X.K i Wout D l' cls d σ' H' →
        wpAny (model X.prog X.w) X.A (handleBy (.ref a) X.env hds') (SP X pins D) X.xe { s' with heap := h3 } := by
      intro hds' l' hk
      induction hk with
      | nil =>
        intro w
        refine wpAny_handleBy_nil ?_
        obtain ⟨k1, k2, k3, oe, vs, T, oT, ts', he, hz, hd, h1, hr⟩ := id fl3
        unfold PySem.passOn
        refine wpAny_bind (wpAny_field he hd h1 ?_)
        rw [if_neg (show ¬ ((Value.ref T == Value.none) = true) from by simp)]
        have fin : wpAny (model X.prog X.w) X.A (setFlight (.ref a) X.env.frame) (fun _ s4 => wpAny (model X.prog X.w) X.A (throw (.ref a) : Sem Flow) (SP X pins D) X.xe s4) X.xe { s' with heap := h3 } := by
          rw [hf]
          refine HandSPX.setFlight_upZ fl3 fun h4 hh4 up4 => wpAny_throw (tk _ _ ?_)
          exact ⟨a, B, sI, pins, σ', H', cls, d, rfl, J, nb, (up.trans up3).trans up4, .inr (.inr (by rw [hs]; exact hh4)), na, os, ag, w⟩
        first
          | exact wpAny_bind (wpAny_pure (wpAny_bind fin))
          | exact wpAny_bind fin
      | @cons x c ts b₀ suite np pos' hds2 l2 hc hsu r ih =>
        intro w
        obtain ⟨b, hb1, hyes, hno⟩ := w
        refine wpAny_handleBy_cons (codeAny_handlers_test ?_) (by intro q; cases q)
        have LT : PySem.W.Looks (model X.prog X.w) h3 (typeOf (.ref a)) cls := fun A Q E s k q => wpAny_typeOf_ref (k _ _ he3) (by rw [hz3.1]; exact q)
        have LM := PySem.W.exm_one (M := model X.prog X.w) (J3.kIn) LT hb1
        have test : ∀ {Q : Value → Shared → Prop} {E : Value → Shared → Prop}, Q c { s' with heap := h3 } → wpAny (model X.prog X.w) (X.A.mark (some (.ref a))) (eval (.Name x np) X.env) Q E { s' with heap := h3 } := fun {Q E} q => by
          obtain ⟨hg, hdbg, hm | ⟨hm, hv, hnn⟩⟩ := hc
          · exact ld_glob (X := X.suite a ((a, oe3) :: (X.pn ++ pins))) S3 hg hm q hdbg
          · exact ld_blt (X := X.suite a ((a, oe3) :: (X.pn ++ pins))) S3 hg hm hv q hnn hdbg
        refine test (LM.here ?_)
        cases b with
        | true =>
          refine codeAny_handlers_suite_as ?_
          refine HandSPX.lands_againZ fl3 fun h4 fl4 up4 => ?_
          have J4 : Inv X pins σ' H' { s' with heap := h4 } := J.landed nb fl4.1 ((up.trans up3).trans up4) os ag
          obtain ⟨oe4, vs4, he4, hz4, hd4⟩ := fl4.there
          have S4 := J4.suite he4 hd4 na nL nF
          refine store_ok (X := X.suite a ((a, oe4) :: (X.pn ++ pins))) (v := .ref a) S4 hN hi hloc rfl (fun s5 S5 => ?_) (.inr hln)
          refine wpAny_mono ((hsu a oe4 cls d (X.pn ++ pins) hz4 ⟨_, hd4⟩).run [] s5 _ H' _ S5 (hyes rfl a na)) (fun f s6 hsp => ?_) (fun _ _ z => False.elim z)
          have last : ∀ {σ6 : L2.St} {H6 : Hp} {Q : Shared → Prop}, Inv (X.suite a ((a, oe4) :: (X.pn ++ pins))) [] σ6 H6 s6 → (∀ s7, Inv X pins (σ6.set i none) H6 s7 → Q s7) →
              wpAny (model X.prog X.w) X.A (do bindName X.env n .none; unbindBehindTheSuite X.env n pos') (fun _ s7 => Q s7) X.xe s6 := fun {σ6 H6 Q} S6 hq => gone_ok (S6.unsuite ok) hN hi hln hq
          match f, hsp with
          | .next, ⟨σ6, H6, S6, q6⟩ => exact last S6 fun s7 J7 => ⟨_, _, J7, q6⟩
          | .brk, ⟨σ6, H6, S6, q6⟩ => exact last S6 fun s7 J7 => ⟨_, _, J7, q6⟩
          | .cont, ⟨σ6, H6, S6, q6⟩ => exact last S6 fun s7 J7 => ⟨_, _, J7, q6⟩
          | .ret u, ⟨v6, σ6, H6, S6, r6, q6⟩ => exact last S6 fun s7 J7 => ⟨_, _, _, J7, r6, q6⟩
        | false =>
          show wpAny _ X.A (handleBy (.ref a) X.env hds2) _ _ _
          exact ih (hno rfl)
    exact go hh w
  · match f, hsp with
    | .next, ⟨σ', H', J', q⟩ => exact wpAny_execs_nil ⟨σ', H', J'.ofTry ok, q⟩
    | .brk, ⟨σ', H', J', q⟩ => exact ⟨σ', H', J'.ofTry ok, q⟩
    | .cont, ⟨σ', H', J', q⟩ => exact ⟨σ', H', J'.ofTry ok, q⟩
    | .ret u, ⟨v, σ', H', J', r, q⟩ => exact ⟨v, σ', H', J'.ofTry ok, r, q⟩
/-- raise C(), an own class without __init__ -/
theorem pmk_exc0 {C : Addr} {bmB : List Value} {B newId initId : String} {x : Str} {p pos : Pos} (F : ExcBaseFacts B newId initId bmB) (q : PySem.W.excIn X.K C bmB newId = true) (gC : X.mg x = some (.ref C)) (kC : PySem.W.keepIn X.K (.ref C) = true) (r : Raises X (.ref C)) (hg : Gl X x)
    (hdb : (x == ("__debug__" : Str)) = false := by decide) : PMk X (.Call (.Name x p) [] [] pos) (fun _ H Q => Q (.ref C) none H) := by
  intro pins s σ H Q I h
  refine wpAny_Call_Name_kw (ld_glob I hg gC (PySem.W.callWith_K0 I.kIn kC ?_) hdb)
  show wpAny _ _ (call (.ref C) []) _ _ _
  obtain ⟨bm, N, nm, qn, bs, hdct, sn, sub, ab, col, dd, k0, k1, k2, k3, k5, mN, hC, hN, hni, T⟩ := exc_obj I.kIn q
  obtain ⟨hp, g, d, t, os⟩ := s
  refine wpAny_call_exc_subT F T hC hN hni (fun h' a hm => ?_) (by show 0 ≤ sizeLine; exact Nat.zero_le _)
  exact mk_of I hm r h (I.hok.gone hm.new)
end
end Gr

set_option linter.all false
/-! Ours: the mathematics of patterns: a table of truths by rows, by columns; places as bits of a number. -/
namespace PM
/-- one row more: the sign c of the body, star or not; r the string, p the row ahead -/
def nrow (star : Bool) (c : Option Nat) (r : List Nat) (p : Nat → Bool) : Nat → Bool
  | 0 => p 0 && star
  | k + 1 => if star then p (k + 1) || nrow star c r p k else p k && (c == r[k]?)
def isSt (b : List Nat) (i : Nat) : Bool := b[i]? == some 42
/-- the first i signs of b fit the first k of r -/
def F (b r : List Nat) : Nat → Nat → Bool
  | 0 => fun k => k == 0
  | i + 1 => nrow (isSt b i) b[i]? r (F b r i)
theorem F_zero (b r : List Nat) (k : Nat) : F b r 0 k = (k == 0) := rfl
theorem F_succ_zero (b r : List Nat) (i : Nat) : F b r (i + 1) 0 = (F b r i 0 && isSt b i) := rfl
theorem F_succ (b r : List Nat) (i k : Nat) : F b r (i + 1) (k + 1) = if isSt b i then F b r i (k + 1) || F b r (i + 1) k else F b r i k && (b[i]? == r[k]?) := rfl

/-- a body that begins with a sign fits nothing at the empty string -/
theorem F_begin {b : List Nat} (r : List Nat) (h : isSt b 0 = false) : ∀ i, F b r i 0 = (i == 0)
  | 0 => rfl
  | 1 => by rw [F_succ_zero, h]; cases F b r 0 0 <;> rfl
  | i + 2 => by
    rw [F_succ_zero, F_begin r h (i + 1)]
    rfl

/-- only the first k signs of the string matter -/
theorem F_local {b r r' : List Nat} : ∀ (i k : Nat), (∀ j, j < k → r[j]? = r'[j]?) → F b r i k = F b r' i k
  | 0, k, _ => rfl
  | i + 1, 0, h => by rw [F_succ_zero, F_succ_zero, F_local i 0 h]
  | i + 1, k + 1, h => by
    have h' : ∀ j, j < k → r[j]? = r'[j]? := fun j hj => h j (Nat.lt_succ_of_lt hj)
    rw [F_succ, F_succ, F_local i (k + 1) h, F_local (i + 1) k h', F_local i k h', h k (Nat.lt_succ_self k)]
/-- only the first i signs of the body matter -/
theorem F_body {b b' r : List Nat} : ∀ (i k : Nat), (∀ j, j < i → b[j]? = b'[j]?) → F b r i k = F b' r i k
  | 0, k, _ => rfl
  | i + 1, 0, h => by
    rw [F_succ_zero, F_succ_zero, F_body i 0 (fun j hj => h j (Nat.lt_succ_of_lt hj))]
    unfold isSt
    rw [h i (Nat.lt_succ_self i)]
  | i + 1, k + 1, h => by
    have h' : ∀ j, j < i → b[j]? = b'[j]? := fun j hj => h j (Nat.lt_succ_of_lt hj)
    rw [F_succ, F_succ, F_body i (k + 1) h', F_body (i + 1) k h, F_body i k h']
    unfold isSt
    rw [h i (Nat.lt_succ_self i)]
/-- a star at the end takes one sign more -/
theorem F_star {b r : List Nat} {i k : Nat} (h : isSt b i = true) (f : F b r (i + 1) k = true) : F b r (i + 1) (k + 1) = true := by
  rw [F_succ, if_pos h, f, Bool.or_true]
theorem F_stars {b r : List Nat} {i k : Nat} (h : isSt b i = true) (f : F b r (i + 1) k = true) : ∀ n, F b r (i + 1) (k + n) = true
  | 0 => f
  | n + 1 => F_star h (F_stars h f n)
/-- without stars just the string itself is fitted -/
theorem F_plain {b r : List Nat} (h : ∀ i, isSt b i = false) : ∀ i k, i ≤ b.length → k ≤ r.length → (F b r i k = true ↔ b.take i = r.take k)
  | 0, 0, _, _ => by simp [F]
  | 0, k + 1, _, hk => by
    rw [F_zero]
    constructor
    · intro e
      cases e
    · intro e
      have := congrArg List.length e
      rw [List.length_take, List.length_take] at this
      omega
  | i + 1, 0, hi, _ => by
    rw [F_succ_zero, h i, Bool.and_false]
    constructor
    · intro e
      cases e
    · intro e
      have := congrArg List.length e
      rw [List.length_take, List.length_take] at this
      omega
  | i + 1, k + 1, hi, hk => by
    have hi' : i < b.length := hi
    have hk' : k < r.length := hk
    rw [F_succ, h i, if_neg Bool.false_ne_true, Bool.and_eq_true, F_plain h i k (Nat.le_of_lt hi') (Nat.le_of_lt hk'), List.getElem?_eq_getElem hi', List.getElem?_eq_getElem hk',
      beq_iff_eq, Option.some_inj, List.take_succ_eq_append_getElem hi', List.take_succ_eq_append_getElem hk']
    constructor
    · rintro ⟨e1, e2⟩
      rw [e1, e2]
    · intro e
      have el : (b.take i).length = (r.take k).length := by
        have := congrArg List.length e
        rw [List.length_append, List.length_append] at this
        simpa using this
      obtain ⟨e1, e2⟩ := List.append_inj e el
      exact ⟨e1, by simpa using e2⟩

/-! ### numbers as sets of places -/
def bits (f : Nat → Bool) : Nat → Nat
  | 0 => 0
  | n + 1 => bits f n ||| (if f n then 2 ^ n else 0)
theorem testBit_pow (n i : Nat) : (2 ^ n).testBit i = decide (n = i) := Nat.testBit_two_pow ..
theorem bits_test (f : Nat → Bool) : ∀ n i, (bits f n).testBit i = (decide (i < n) && f i)
  | 0, i => by simp [bits]
  | n + 1, i => by
    unfold bits
    rw [Nat.testBit_or, bits_test f n i]
    by_cases hi : i = n
    · subst hi
      cases hf : f i <;> simp [testBit_pow]
    · have h1 : decide (i < n + 1) = decide (i < n) := by
        apply decide_eq_decide.mpr
        omega
      rw [h1]
      cases hf : f n
      · simp
      · have : ¬ n = i := fun e => hi e.symm
        simp [testBit_pow, this]
theorem bits_lt (f : Nat → Bool) (n : Nat) : bits f n < 2 ^ n := by
  induction n with
  | zero => exact Nat.zero_lt_one
  | succ n ih =>
    unfold bits
    refine Nat.or_lt_two_pow (Nat.lt_trans ih (Nat.pow_lt_pow_right (by decide) (Nat.lt_succ_self n))) ?_
    cases f n
    · exact Nat.two_pow_pos _
    · exact Nat.pow_lt_pow_right (by decide) (Nat.lt_succ_self n)
theorem eq_of_test {a b : Nat} (h : ∀ i, a.testBit i = b.testBit i) : a = b := Nat.eq_of_testBit_eq h
theorem lt_of_test {a n : Nat} (h : ∀ i, n ≤ i → a.testBit i = false) : a < 2 ^ n := Nat.lt_pow_two_of_testBit a h

/-- the body's stars; those places kept by any sign; the places that a sign leads on from -/
def starsOf (b : List Nat) (n : Nat) : Nat := bits (isSt b) n
def heldOf (b : List Nat) (n : Nat) : Nat := bits (isSt b) n * 2
def moveOf (b : List Nat) (c : Nat) (n : Nat) : Nat := bits (fun i => !isSt b i && (b[i]? == some c)) n

theorem mul2_test (a i : Nat) : (a * 2).testBit i = (decide (0 < i) && a.testBit (i - 1)) := by
  have := Nat.testBit_mul_two_pow a i 1
  rw [Nat.pow_one] at this
  rw [this]
  rfl
theorem mul2_or (a b : Nat) : (a ||| b) * 2 = a * 2 ||| b * 2 := by
  refine eq_of_test fun i => ?_
  rw [mul2_test, Nat.testBit_or, Nat.testBit_or, mul2_test, mul2_test]
  cases decide (0 < i) <;> simp

/-- one turn of the closing -/
def grow (st s : Nat) : Nat := s ||| (s &&& st) * 2
theorem grow_test (st s i : Nat) : (grow st s).testBit i = (s.testBit i || (decide (0 < i) && (s.testBit (i - 1) && st.testBit (i - 1)))) := by
  unfold grow
  rw [Nat.testBit_or, mul2_test, Nat.testBit_and]
/-- what closing comes to -/
def clo (st s : Nat → Bool) : Nat → Bool
  | 0 => s 0
  | i + 1 => s (i + 1) || (clo st s i && st i)
theorem clo_of {st s c : Nat} {s0 : Nat → Bool} (h0 : ∀ i, s0 i = true → s.testBit i = true) (h1 : ∀ i, s.testBit i = true → clo (st.testBit ·) s0 i = true) (hf : grow st s = s) :
    ∀ i, s.testBit i = clo (st.testBit ·) s0 i
  | 0 => by
    rw [Bool.eq_iff_iff]
    exact ⟨h1 0, fun e => h0 0 e⟩
  | i + 1 => by
    rw [Bool.eq_iff_iff]
    refine ⟨h1 _, fun e => ?_⟩
    unfold clo at e
    rw [Bool.or_eq_true] at e
    rcases e with e | e
    · exact h0 _ e
    · rw [← clo_of (c := c) h0 h1 hf i] at e
      rw [← hf, grow_test]
      simp only [Nat.succ_sub_one, Nat.zero_lt_succ, decide_true, Bool.true_and]
      rw [e, Bool.or_true]
theorem grow_sub {st s : Nat} {s0 : Nat → Bool} (h1 : ∀ i, s.testBit i = true → clo (st.testBit ·) s0 i = true) : ∀ i, (grow st s).testBit i = true → clo (st.testBit ·) s0 i = true := by
  intro i e
  rw [grow_test, Bool.or_eq_true] at e
  rcases e with e | e
  · exact h1 i e
  · cases i with
    | zero => cases e
    | succ i =>
      simp only [Nat.succ_sub_one, Nat.zero_lt_succ, decide_true, Bool.true_and, Bool.and_eq_true] at e
      unfold clo
      rw [h1 i e.1, e.2]
      simp
theorem grow_ge (st s : Nat) : s ≤ grow st s := Nat.left_le_or
theorem grow_keeps {st s : Nat} {i : Nat} (h : s.testBit i = true) : (grow st s).testBit i = true := by
  rw [grow_test, h]
  rfl
theorem grow_lt {st s n : Nat} (hs : s < 2 ^ (n + 1)) (ht : st < 2 ^ n) : grow st s < 2 ^ (n + 1) := by
  unfold grow
  refine Nat.or_lt_two_pow hs ?_
  have h1 : s &&& st < 2 ^ n := Nat.lt_of_le_of_lt Nat.and_le_right ht
  rw [Nat.pow_succ]
  omega

/-- a step: the bits ahead of closing -/
def stepped (b : List Nat) (n s c : Nat) : Nat := (s &&& moveOf b c n) * 2 ||| (s &&& heldOf b n)
theorem stepped_test (b : List Nat) (n s c i : Nat) : (stepped b n s c).testBit i = (decide (0 < i) && ((s.testBit (i - 1) && (moveOf b c n).testBit (i - 1)) || (s.testBit i && (bits (isSt b) n).testBit (i - 1)))) := by
  unfold stepped heldOf
  rw [Nat.testBit_or, mul2_test, Nat.testBit_and, Nat.testBit_and, mul2_test]
  cases decide (0 < i) <;> simp
/-- the places at the first k signs, as a number -/
def Pl (b r : List Nat) (k s : Nat) : Prop := ∀ i, s.testBit i = (decide (i ≤ b.length) && F b r i k)
theorem clo_step {b r : List Nat} {k s c : Nat} (hs : Pl b r k s) (hc : r[k]? = some c) : ∀ i, clo ((starsOf b b.length).testBit ·) ((stepped b b.length s c).testBit ·) i = (decide (i ≤ b.length) && F b r i (k + 1))
  | 0 => by
    unfold clo
    rw [stepped_test, F_zero]
    simp
  | i + 1 => by
    have sti : (starsOf b b.length).testBit i = isSt b i := by
      unfold starsOf
      rw [bits_test]
      by_cases hi : i < b.length
      · simp [hi]
      · unfold isSt
        rw [List.getElem?_eq_none (Nat.le_of_not_lt hi)]
        simp
    unfold clo
    rw [clo_step hs hc i, stepped_test, sti]
    simp only [Nat.succ_sub_one, Nat.zero_lt_succ, decide_true, Bool.true_and]
    rw [hs i, hs (i + 1)]
    unfold moveOf
    rw [bits_test, bits_test]
    by_cases hi : i < b.length
    · have h1 : decide (i ≤ b.length) = true := decide_eq_true (Nat.le_of_lt hi)
      have h2 : decide (i + 1 ≤ b.length) = true := decide_eq_true hi
      have h3 : decide (i < b.length) = true := decide_eq_true hi
      rw [h1, h2, h3, F_succ, hc]
      cases hst : isSt b i
      · simp
      · simp [Bool.or_comm]
    · have h2 : decide (i + 1 ≤ b.length) = false := decide_eq_false (by omega)
      have h3 : decide (i < b.length) = false := decide_eq_false hi
      have h4 : isSt b i = false := by
        unfold isSt
        rw [List.getElem?_eq_none (Nat.le_of_not_lt hi)]
        rfl
      rw [h2, h3, h4]
      simp
end PM

set_option Elab.async false
set_option maxRecDepth 100000
set_option maxHeartbeats 4000000
set_option linter.all false
namespace KP
open PySem PySem.Spec PyProof.Rows L2 Gr GxR
def top (i : Nat) : Stmt := PySem.Challenge.pw_gentlerounds_k15_whole_stricter_rules_ex.main.body.getD i (.Pass ⟨0, 0, 0, 0⟩)
abbrev s_opens : Stmt := top 5
abbrev s_next_open : Stmt := top 6
abbrev s_next_ask : Stmt := top 7
abbrev s_soonest_asks : Stmt := top 8
abbrev s_most_between : Stmt := top 9
abbrev s_tidied_pairs : Stmt := top 10
abbrev s_is_whole : Stmt := top 16
abbrev s_is_between : Stmt := top 17
abbrev s_is_tuple : Stmt := top 18
abbrev s_is_limit : Stmt := top 21
abbrev s_are_limits : Stmt := top 22
abbrev s_are_hours : Stmt := top 23
abbrev s_are_rules : Stmt := top 24
abbrev s_check_limits : Stmt := top 25
abbrev s_check_rules : Stmt := top 26
abbrev s_is_stricter : Stmt := top 28
abbrev s_loose_row : Stmt := top 29
abbrev s_row_while_closed : Stmt := top 30
abbrev s_row_of_too_many : Stmt := top 31
abbrev s_are_alike_limits : Stmt := top 32
abbrev s_are_alike_rules : Stmt := top 33
abbrev s_l_well : Stmt := top 35
abbrev s_l_pick : Stmt := top 36
abbrev s_l_one : Stmt := top 37
abbrev s_l_open : Stmt := top 38
abbrev s_l_wrong_at : Stmt := top 39
abbrev s_l_soonest : Stmt := top 40
abbrev s_l_some_limits : Stmt := top 41
abbrev s_l_some_hours : Stmt := top 42
abbrev s_l_line_formed : Stmt := top 43
abbrev s_l_lets : Stmt := top 44
abbrev s_l_by_walk : Stmt := top 45
abbrev s_l_below : Stmt := top 46
abbrev s_l_by_most : Stmt := top 47
abbrev s_l_other : Stmt := top 48
abbrev s_l_pair_right : Stmt := top 49
abbrev s_l_right : Stmt := top 50
abbrev s_law : Stmt := top 51
/-- a def whose code object stands at c -/
structure FunC (K : PySem.W.Frag) (x ql : Str) (st : Stmt) (f : Addr) (fd : FuncData) (c : Addr) : Prop where
  ex : ∃ (oc : Value) (od : Option Addr) (kV doc pm : Value) (an : Option Addr) (ct : Value) (osl : Array (Option Value)),
    fd = PySem.W.fnOf x ql (defArgs st) (defBody st) (defScope st) .none kV doc pm an (.ref c) ct ∧ K.lookup f = some ⟨oc, od, .func fd, osl⟩ ∧ PySem.W.codeIn K (.ref c) ql = true
  kp : PySem.W.keepIn K (.ref f) = true
theorem FunC.fun {K : PySem.W.Frag} {x ql : Str} {st : Stmt} {f : Addr} {fd : FuncData} {c : Addr} (F : FunC K x ql st f fd c) : Fun K x ql st f fd := by
  obtain ⟨⟨oc, od, kV, doc, pm, an, ct, osl, e1, e2, e3⟩, kp⟩ := F
  exact ⟨⟨oc, od, kV, doc, pm, an, .ref c, ct, osl, e1, e2, e3⟩, kp⟩
/-- such a def by its body; its code object is known there -/
theorem FunC.ok {P : Program} {w : World} {K : PySem.W.Frag} {mg : Str → Option Value} {base : Heap} {x ql : Str} {st : Stmt} {f c : Addr} {fd : FuncData} {N ps : List Str} {k : Nat} {sp : Sp} (F : FunC K x ql st f fd c) (S : FnScope N ps (defScope st)) (len : ∀ vs H Q E, sp vs H Q E → vs.length = ps.length)
    (hb : ∀ (A : Around) (outer : List Env) (s : Shared) (H : Hp) (vs : List V) (Q : VK) (E : XK), Room k (A.deeper (envOfC ql (defScope st) s.heap.objs.size f (.ref c))) → sp vs H Q E →
      ∃ t, PSs (cxOf CX0 P w K mg base N ql (defScope st) f (.ref c) A outer s H E).nox (defBody st) t ∧ t { nx := fun _ H' => Q .non H', rt := Q } (start N vs) H) : FnOk P w K mg base CX0 (k + 1) f fd ps sp := by
  obtain ⟨oc, od, kV, doc, pm, an, ct, osl, rfl, lk, hcd⟩ := F.ex
  refine fn_of lk hcd S len fun A outer s H vs Q E hr hsp => ?_
  obtain ⟨t, h, q⟩ := hb A outer s H vs Q E hr hsp
  exact ⟨t, h.nox, q⟩
/-- a def with defaults, by its body -/
theorem okN {P : Program} {w : World} {K : PySem.W.Frag} {mg : Str → Option Value} {base : Heap} {x qual : Str} {params : Arguments} {body : List Stmt} {scope : Scope} {dvs : List V} {kws : List (Str × V)} {f : Addr} {fd : FuncData} {N ps : List Str} {k : Nat} {sp : Sp} (F : FunD K x qual params body scope dvs kws f fd) (S : FnScope N ps scope) (len : ∀ vs H Q E, sp vs H Q E → vs.length = ps.length)
    (hb : ∀ (cdv : Value) (A : Around) (outer : List Env) (s : Shared) (H : Hp) (vs : List V) (Q : VK) (E : XK), Room k (A.deeper (envOfC qual scope s.heap.objs.size f cdv)) → sp vs H Q E →
      ∃ t, PSs (cxOf CX0 P w K mg base N qual scope f cdv A outer s H E).nox body t ∧ t { nx := fun _ H' => Q .non H', rt := Q } (start N vs) H) : FnOk P w K mg base CX0 (k + 1) f fd ps sp := F.ok S len fun cdv A outer s H vs Q E hr hsp => by
  obtain ⟨t, h, q⟩ := hb cdv A outer s H vs Q E hr hsp
  exact ⟨t, h.nox, q⟩
structure D (K : PySem.W.Frag) (mg : Str → Option Value) where
  f_opens : Addr
  d_opens : FuncData
  U_opens : Fun K "opens" "opens" s_opens f_opens d_opens
  g_opens : mg "opens" = some (.ref f_opens)
  f_next_open : Addr
  d_next_open : FuncData
  U_next_open : Fun K "next_open" "next_open" s_next_open f_next_open d_next_open
  g_next_open : mg "next_open" = some (.ref f_next_open)
  f_next_ask : Addr
  d_next_ask : FuncData
  U_next_ask : Fun K "next_ask" "next_ask" s_next_ask f_next_ask d_next_ask
  g_next_ask : mg "next_ask" = some (.ref f_next_ask)
  f_soonest_asks : Addr
  d_soonest_asks : FuncData
  U_soonest_asks : Fun K "soonest_asks" "soonest_asks" s_soonest_asks f_soonest_asks d_soonest_asks
  g_soonest_asks : mg "soonest_asks" = some (.ref f_soonest_asks)
  f_most_between : Addr
  d_most_between : FuncData
  U_most_between : Fun K "most_between" "most_between" s_most_between f_most_between d_most_between
  g_most_between : mg "most_between" = some (.ref f_most_between)
  f_tidied_pairs : Addr
  d_tidied_pairs : FuncData
  U_tidied_pairs : Fun K "tidied_pairs" "tidied_pairs" s_tidied_pairs f_tidied_pairs d_tidied_pairs
  g_tidied_pairs : mg "tidied_pairs" = some (.ref f_tidied_pairs)
  f_is_whole : Addr
  d_is_whole : FuncData
  U_is_whole : Fun K "is_whole" "is_whole" s_is_whole f_is_whole d_is_whole
  g_is_whole : mg "is_whole" = some (.ref f_is_whole)
  f_is_between : Addr
  d_is_between : FuncData
  U_is_between : Fun K "is_between" "is_between" s_is_between f_is_between d_is_between
  g_is_between : mg "is_between" = some (.ref f_is_between)
  f_is_tuple : Addr
  d_is_tuple : FuncData
  U_is_tuple : Fun K "is_tuple" "is_tuple" s_is_tuple f_is_tuple d_is_tuple
  g_is_tuple : mg "is_tuple" = some (.ref f_is_tuple)
  f_is_limit : Addr
  d_is_limit : FuncData
  U_is_limit : Fun K "is_limit" "is_limit" s_is_limit f_is_limit d_is_limit
  g_is_limit : mg "is_limit" = some (.ref f_is_limit)
  f_are_limits : Addr
  d_are_limits : FuncData
  c_are_limits : Addr
  P_are_limits : Addr
  V_are_limits : FunC K "are_limits" "are_limits" s_are_limits f_are_limits d_are_limits c_are_limits
  g_are_limits : mg "are_limits" = some (.ref f_are_limits)
  f_are_hours : Addr
  d_are_hours : FuncData
  c_are_hours : Addr
  P_are_hours : Addr
  V_are_hours : FunC K "are_hours" "are_hours" s_are_hours f_are_hours d_are_hours c_are_hours
  g_are_hours : mg "are_hours" = some (.ref f_are_hours)
  f_are_rules : Addr
  d_are_rules : FuncData
  U_are_rules : Fun K "are_rules" "are_rules" s_are_rules f_are_rules d_are_rules
  g_are_rules : mg "are_rules" = some (.ref f_are_rules)
  f_check_limits : Addr
  d_check_limits : FuncData
  U_check_limits : Fun K "check_limits" "check_limits" s_check_limits f_check_limits d_check_limits
  g_check_limits : mg "check_limits" = some (.ref f_check_limits)
  f_check_rules : Addr
  d_check_rules : FuncData
  U_check_rules : Fun K "check_rules" "check_rules" s_check_rules f_check_rules d_check_rules
  g_check_rules : mg "check_rules" = some (.ref f_check_rules)
  f_is_stricter : Addr
  d_is_stricter : FuncData
  U_is_stricter : Fun K "is_stricter" "is_stricter" s_is_stricter f_is_stricter d_is_stricter
  g_is_stricter : mg "is_stricter" = some (.ref f_is_stricter)
  f_loose_row : Addr
  d_loose_row : FuncData
  U_loose_row : Fun K "loose_row" "loose_row" s_loose_row f_loose_row d_loose_row
  g_loose_row : mg "loose_row" = some (.ref f_loose_row)
  f_row_while_closed : Addr
  d_row_while_closed : FuncData
  U_row_while_closed : Fun K "row_while_closed" "row_while_closed" s_row_while_closed f_row_while_closed d_row_while_closed
  g_row_while_closed : mg "row_while_closed" = some (.ref f_row_while_closed)
  f_row_of_too_many : Addr
  d_row_of_too_many : FuncData
  U_row_of_too_many : Fun K "row_of_too_many" "row_of_too_many" s_row_of_too_many f_row_of_too_many d_row_of_too_many
  g_row_of_too_many : mg "row_of_too_many" = some (.ref f_row_of_too_many)
  f_are_alike_limits : Addr
  d_are_alike_limits : FuncData
  U_are_alike_limits : Fun K "are_alike_limits" "are_alike_limits" s_are_alike_limits f_are_alike_limits d_are_alike_limits
  g_are_alike_limits : mg "are_alike_limits" = some (.ref f_are_alike_limits)
  f_are_alike_rules : Addr
  d_are_alike_rules : FuncData
  U_are_alike_rules : Fun K "are_alike_rules" "are_alike_rules" s_are_alike_rules f_are_alike_rules d_are_alike_rules
  g_are_alike_rules : mg "are_alike_rules" = some (.ref f_are_alike_rules)
  f_l_well : Addr
  d_l_well : FuncData
  U_l_well : Fun K "_law_well" "_law_well" s_l_well f_l_well d_l_well
  g_l_well : mg "_law_well" = some (.ref f_l_well)
  f_l_pick : Addr
  d_l_pick : FuncData
  U_l_pick : Fun K "_law_pick" "_law_pick" s_l_pick f_l_pick d_l_pick
  g_l_pick : mg "_law_pick" = some (.ref f_l_pick)
  f_l_one : Addr
  d_l_one : FuncData
  U_l_one : Fun K "_law_one" "_law_one" s_l_one f_l_one d_l_one
  g_l_one : mg "_law_one" = some (.ref f_l_one)
  f_l_open : Addr
  d_l_open : FuncData
  U_l_open : Fun K "_law_open" "_law_open" s_l_open f_l_open d_l_open
  g_l_open : mg "_law_open" = some (.ref f_l_open)
  f_l_wrong_at : Addr
  d_l_wrong_at : FuncData
  U_l_wrong_at : Fun K "_law_wrong_at" "_law_wrong_at" s_l_wrong_at f_l_wrong_at d_l_wrong_at
  g_l_wrong_at : mg "_law_wrong_at" = some (.ref f_l_wrong_at)
  f_l_soonest : Addr
  d_l_soonest : FuncData
  U_l_soonest : Fun K "_law_soonest" "_law_soonest" s_l_soonest f_l_soonest d_l_soonest
  g_l_soonest : mg "_law_soonest" = some (.ref f_l_soonest)
  f_l_some_limits : Addr
  d_l_some_limits : FuncData
  U_l_some_limits : Fun K "_law_some_limits" "_law_some_limits" s_l_some_limits f_l_some_limits d_l_some_limits
  g_l_some_limits : mg "_law_some_limits" = some (.ref f_l_some_limits)
  f_l_some_hours : Addr
  d_l_some_hours : FuncData
  U_l_some_hours : Fun K "_law_some_hours" "_law_some_hours" s_l_some_hours f_l_some_hours d_l_some_hours
  g_l_some_hours : mg "_law_some_hours" = some (.ref f_l_some_hours)
  f_l_line_formed : Addr
  d_l_line_formed : FuncData
  U_l_line_formed : Fun K "_law_line_formed" "_law_line_formed" s_l_line_formed f_l_line_formed d_l_line_formed
  g_l_line_formed : mg "_law_line_formed" = some (.ref f_l_line_formed)
  f_l_lets : Addr
  d_l_lets : FuncData
  U_l_lets : Fun K "_law_lets" "_law_lets" s_l_lets f_l_lets d_l_lets
  g_l_lets : mg "_law_lets" = some (.ref f_l_lets)
  f_l_by_walk : Addr
  d_l_by_walk : FuncData
  U_l_by_walk : Fun K "_law_by_walk" "_law_by_walk" s_l_by_walk f_l_by_walk d_l_by_walk
  g_l_by_walk : mg "_law_by_walk" = some (.ref f_l_by_walk)
  f_l_below : Addr
  d_l_below : FuncData
  U_l_below : Fun K "_law_below" "_law_below" s_l_below f_l_below d_l_below
  g_l_below : mg "_law_below" = some (.ref f_l_below)
  f_l_by_most : Addr
  d_l_by_most : FuncData
  U_l_by_most : Fun K "_law_by_most" "_law_by_most" s_l_by_most f_l_by_most d_l_by_most
  g_l_by_most : mg "_law_by_most" = some (.ref f_l_by_most)
  f_l_other : Addr
  d_l_other : FuncData
  U_l_other : Fun K "_law_other" "_law_other" s_l_other f_l_other d_l_other
  g_l_other : mg "_law_other" = some (.ref f_l_other)
  f_l_pair_right : Addr
  d_l_pair_right : FuncData
  U_l_pair_right : Fun K "_law_pair_right" "_law_pair_right" s_l_pair_right f_l_pair_right d_l_pair_right
  g_l_pair_right : mg "_law_pair_right" = some (.ref f_l_pair_right)
  f_l_right : Addr
  d_l_right : FuncData
  U_l_right : Fun K "_law_right" "_law_right" s_l_right f_l_right d_l_right
  g_l_right : mg "_law_right" = some (.ref f_l_right)
  f_law : Addr
  d_law : FuncData
  U_law : Fun K "law" "law" s_law f_law d_law
  g_law : mg "law" = some (.ref f_law)
  a_ALWAYS : Addr
  g_ALWAYS : mg "ALWAYS" = some (.ref a_ALWAYS)
  k_ALWAYS : ∃ (o : Obj) (its : Array Value) (n : Nat), K.lookup a_ALWAYS = some o ∧ o.cls = .type "tuple" ∧ o.data = .seq its n ∧ its.size ≤ sizeLine ∧ Vals [V.int 1] its.toList
  t_MOST_ASKS : Tok
  g_MOST_ASKS : mg "MOST_ASKS" = some (.int 6 t_MOST_ASKS)
  t_WIDEST : Tok
  g_WIDEST : mg "WIDEST" = some (.int 12 t_WIDEST)
  t_MOST_PAIRS : Tok
  g_MOST_PAIRS : mg "MOST_PAIRS" = some (.int 4 t_MOST_PAIRS)
  i_lcm : mg "lcm" = some (.builtin "math.lcm")
  abs : mg "abs" = none
  all : mg "all" = none
  bool : mg "bool" = none
  divmod : mg "divmod" = none
  enumerate : mg "enumerate" = none
  int : mg "int" = none
  isinstance : mg "isinstance" = none
  len : mg "len" = none
  list : mg "list" = none
  max : mg "max" = none
  min : mg "min" = none
  range : mg "range" = none
  repr : mg "repr" = none
  sum : mg "sum" = none
  tuple : mg "tuple" = none
namespace D
variable {K : PySem.W.Frag} {mg : Str → Option Value} (T : D K mg)
theorem b_opens : Binds K T.d_opens ["hours", "moment"] [] := T.U_opens.binds fun _ _ _ _ _ _ us hl => match us, hl with | [_, _], _ => rfl
theorem b_next_open : Binds K T.d_next_open ["hours", "moment"] [] := T.U_next_open.binds fun _ _ _ _ _ _ us hl => match us, hl with | [_, _], _ => rfl
theorem b_next_ask : Binds K T.d_next_ask ["rules", "asks", "since"] [] := T.U_next_ask.binds fun _ _ _ _ _ _ us hl => match us, hl with | [_, _, _], _ => rfl
theorem b_soonest_asks : Binds K T.d_soonest_asks ["rules", "asks", "many", "since"] [] := T.U_soonest_asks.binds fun _ _ _ _ _ _ us hl => match us, hl with | [_, _, _, _], _ => rfl
theorem b_most_between : Binds K T.d_most_between ["rules", "start", "end"] [] := T.U_most_between.binds fun _ _ _ _ _ _ us hl => match us, hl with | [_, _, _], _ => rfl
theorem b_tidied_pairs : Binds K T.d_tidied_pairs ["limits"] [] := T.U_tidied_pairs.binds fun _ _ _ _ _ _ us hl => match us, hl with | [_], _ => rfl
theorem b_is_whole : Binds K T.d_is_whole ["value"] [] := T.U_is_whole.binds fun _ _ _ _ _ _ us hl => match us, hl with | [_], _ => rfl
theorem b_is_between : Binds K T.d_is_between ["value", "low", "high"] [] := T.U_is_between.binds fun _ _ _ _ _ _ us hl => match us, hl with | [_, _, _], _ => rfl
theorem b_is_tuple : Binds K T.d_is_tuple ["value", "low", "high"] [] := T.U_is_tuple.binds fun _ _ _ _ _ _ us hl => match us, hl with | [_, _, _], _ => rfl
theorem b_is_limit : Binds K T.d_is_limit ["value"] [] := T.U_is_limit.binds fun _ _ _ _ _ _ us hl => match us, hl with | [_], _ => rfl
theorem U_are_limits : Fun K "are_limits" "are_limits" s_are_limits T.f_are_limits T.d_are_limits := T.V_are_limits.fun
theorem b_are_limits : Binds K T.d_are_limits ["value"] [] := T.U_are_limits.binds fun _ _ _ _ _ _ us hl => match us, hl with | [_], _ => rfl
theorem U_are_hours : Fun K "are_hours" "are_hours" s_are_hours T.f_are_hours T.d_are_hours := T.V_are_hours.fun
theorem b_are_hours : Binds K T.d_are_hours ["value"] [] := T.U_are_hours.binds fun _ _ _ _ _ _ us hl => match us, hl with | [_], _ => rfl
theorem b_are_rules : Binds K T.d_are_rules ["value"] [] := T.U_are_rules.binds fun _ _ _ _ _ _ us hl => match us, hl with | [_], _ => rfl
theorem b_check_limits : Binds K T.d_check_limits ["given"] [] := T.U_check_limits.binds fun _ _ _ _ _ _ us hl => match us, hl with | [_], _ => rfl
theorem b_check_rules : Binds K T.d_check_rules ["given"] [] := T.U_check_rules.binds fun _ _ _ _ _ _ us hl => match us, hl with | [_], _ => rfl
theorem b_is_stricter : Binds K T.d_is_stricter ["rules", "other"] [] := T.U_is_stricter.binds fun _ _ _ _ _ _ us hl => match us, hl with | [_, _], _ => rfl
theorem b_loose_row : Binds K T.d_loose_row ["rules", "other"] [] := T.U_loose_row.binds fun _ _ _ _ _ _ us hl => match us, hl with | [_, _], _ => rfl
theorem b_row_while_closed : Binds K T.d_row_while_closed ["hours", "other"] [] := T.U_row_while_closed.binds fun _ _ _ _ _ _ us hl => match us, hl with | [_, _], _ => rfl
theorem b_row_of_too_many : Binds K T.d_row_of_too_many ["rules", "limits"] [] := T.U_row_of_too_many.binds fun _ _ _ _ _ _ us hl => match us, hl with | [_, _], _ => rfl
theorem b_are_alike_limits : Binds K T.d_are_alike_limits ["limits", "other"] [] := T.U_are_alike_limits.binds fun _ _ _ _ _ _ us hl => match us, hl with | [_, _], _ => rfl
theorem b_are_alike_rules : Binds K T.d_are_alike_rules ["rules", "other"] [] := T.U_are_alike_rules.binds fun _ _ _ _ _ _ us hl => match us, hl with | [_, _], _ => rfl
theorem b_l_well : Binds K T.d_l_well ["_law_script", "_law_turn"] [] := T.U_l_well.binds fun _ _ _ _ _ _ us hl => match us, hl with | [_, _], _ => rfl
theorem b_l_pick : Binds K T.d_l_pick ["_law_well_here", "_law_top"] [] := T.U_l_pick.binds fun _ _ _ _ _ _ us hl => match us, hl with | [_, _], _ => rfl
theorem b_l_one : Binds K T.d_l_one ["_law_well_here", "_law_some"] [] := T.U_l_one.binds fun _ _ _ _ _ _ us hl => match us, hl with | [_, _], _ => rfl
theorem b_l_open : Binds K T.d_l_open ["_law_clock", "_law_time"] [] := T.U_l_open.binds fun _ _ _ _ _ _ us hl => match us, hl with | [_, _], _ => rfl
theorem b_l_wrong_at : Binds K T.d_l_wrong_at ["_law_pairs", "_law_clock", "_law_row"] [] := T.U_l_wrong_at.binds fun _ _ _ _ _ _ us hl => match us, hl with | [_, _, _], _ => rfl
theorem b_l_soonest : Binds K T.d_l_soonest ["_law_pairs", "_law_clock", "_law_row", "_law_number", "_law_start"] [] := T.U_l_soonest.binds fun _ _ _ _ _ _ us hl => match us, hl with | [_, _, _, _, _], _ => rfl
theorem b_l_some_limits : Binds K T.d_l_some_limits ["_law_well_here", "_law_top", "_law_width"] [] := T.U_l_some_limits.binds fun _ _ _ _ _ _ us hl => match us, hl with | [_, _, _], _ => rfl
theorem b_l_some_hours : Binds K T.d_l_some_hours ["_law_well_here", "_law_top"] [] := T.U_l_some_hours.binds fun _ _ _ _ _ _ us hl => match us, hl with | [_, _], _ => rfl
theorem b_l_line_formed : Binds K T.d_l_line_formed ["_law_told"] [] := T.U_l_line_formed.binds fun _ _ _ _ _ _ us hl => match us, hl with | [_], _ => rfl
theorem b_l_lets : Binds K T.d_l_lets ["_law_rule", "_law_clocks", "_law_past", "_law_count"] [] := T.U_l_lets.binds fun _ _ _ _ _ _ us hl => match us, hl with | [_, _, _, _], _ => rfl
theorem b_l_by_walk : Binds K T.d_l_by_walk ["_law_rule", "_law_other_here"] [] := T.U_l_by_walk.binds fun _ _ _ _ _ _ us hl => match us, hl with | [_, _], _ => rfl
theorem b_l_below : Binds K T.d_l_below ["_law_pairs", "_law_clock", "_law_start", "_law_wide"] [] := T.U_l_below.binds fun _ _ _ _ _ _ us hl => match us, hl with | [_, _, _, _], _ => rfl
theorem b_l_by_most : Binds K T.d_l_by_most ["_law_rule", "_law_other_here"] [] := T.U_l_by_most.binds fun _ _ _ _ _ _ us hl => match us, hl with | [_, _], _ => rfl
theorem b_l_other : Binds K T.d_l_other ["_law_well_here", "_law_rule", "_law_top", "_law_width"] [] := T.U_l_other.binds fun _ _ _ _ _ _ us hl => match us, hl with | [_, _, _, _], _ => rfl
theorem b_l_pair_right : Binds K T.d_l_pair_right ["_law_rule", "_law_other_here", "_law_due"] [] := T.U_l_pair_right.binds fun _ _ _ _ _ _ us hl => match us, hl with | [_, _, _], _ => rfl
theorem b_l_right : Binds K T.d_l_right ["_law_well_here", "_law_is_small"] [] := T.U_l_right.binds fun _ _ _ _ _ _ us hl => match us, hl with | [_, _], _ => rfl
theorem b_law : Binds K T.d_law ["_law_script"] [] := T.U_law.binds fun _ _ _ _ _ _ us hl => match us, hl with | [_], _ => rfl
end D
end KP

set_option Elab.async false
set_option maxRecDepth 100000
set_option maxHeartbeats 4000000
set_option linter.all false
/-! Ours: asks that keep apart. -/
namespace KP
open PySem PySem.Spec PyProof.Rows L2 Gr GxR
def inD (q : Int × Int) : PyData × PyData := (.int q.1, .int q.2)
/-- the look at one pair: fewer asks than it counts, or the one so many back is far enough -/
def apI (ns : List Int) (t : Int) (q : Int × Int) : Bool := decide (((ns.length : Nat) : Int) < q.1) || (match atI ns (-q.1) with
  | some x => decide (q.2 ≤ t - x)
  | none => false)
def numsD : List PyData → List Int
  | [] => []
  | .int n :: l => n :: numsD l
  | _ :: l => 0 :: numsD l
theorem nums_ints : ∀ ns : List Int, numsD (ns.map PyData.int) = ns
  | [] => rfl
  | n :: l => congrArg (n :: ·) (nums_ints l)
def apartB : List PyData → PyData × PyData → Bool
  | [.tuple as, .int t], (.int mo, .int wi) => apI (numsD as) t (mo, wi)
  | _, _ => false
def domA (fd : List PyData) (q : PyData × PyData) : Prop := ∃ (ns : List Int) (t : Int) (p : Int × Int), fd = [.tuple (ns.map PyData.int), .int t] ∧ q = inD p ∧ 1 ≤ p.1
def spApart (L : List Addr) : Sp := fun vs H Q _ => ∃ (lv av : V) (t : Int) (ps : List (Int × Int)) (ns : List Int), vs = [lv, av, .int t] ∧ Od H lv (.tuple ((ps.map inD).map tw)) ∧ (∀ p ∈ ps, 1 ≤ p.1) ∧ Od H av (.tuple (ns.map PyData.int)) ∧ Tb L H ∧ ∀ H', UpL L H H' → Q (.bl (ps.all (apI ns t))) H'
section
variable {P : Program} {w : World} {K : PySem.W.Frag} {mg : Str → Option Value} {base : Heap}
theorem atI_map {ns : List Int} {i x : Int} (h : atI ns i = some x) : atI (ns.map PyData.int) i = some (.int x) := by
  unfold atI at h ⊢
  rw [List.length_map]
  cases e : ixN ns.length i with
  | none => rw [e] at h; cases h
  | some j =>
    rw [e] at h
    have h : ns[j]? = some x := h
    show (ns.map PyData.int)[j]? = _
    rw [List.getElem?_map, h]
    rfl
theorem atI_some {ns : List Int} {m : Int} (h1 : 1 ≤ m) (h2 : ¬ ((ns.length : Nat) : Int) < m) : ∃ x, atI ns (-m) = some x := by
  unfold atI ixN
  rw [if_neg (by omega), if_pos (by omega)]
  have hj : (-m + ((ns.length : Nat) : Int)).toNat < ns.length := by omega
  exact ⟨ns[(-m + ((ns.length : Nat) : Int)).toNat], List.getElem?_eq_getElem hj⟩
end
end KP

set_option Elab.async false
set_option maxRecDepth 100000
set_option maxHeartbeats 4000000
set_option linter.all false
/-! Ours: quiet defs: whole numbers, bounds, rows, pairs of limits. -/
namespace KP
open PySem PySem.Spec PyProof.Rows L2 Gr GxR
def limD : PyData → Bool
  | .tuple [a, b] => betwD a 1 6 && betwD b 1 12
  | _ => false
theorem QF.mono {P : Program} {w : World} {K : PySem.W.Frag} {mg : Str → Option Value} {base : Heap} {j k : Nat} {f : Addr} {fd : FuncData} {ps : List Str} {pre : List PyData → PyData → Prop} (F : QF P w K mg base j f fd ps pre) (h : j ≤ k) : QF P w K mg base k f fd ps pre :=
  ⟨F.len, fun B z args us ds d hr => F.run B z args us ds d (hr.mono h)⟩
section
variable {P : Program} {w : World} {K : PySem.W.Frag} {mg : Str → Option Value} {base : Heap}
theorem sc_whole : FnScope ["value"] ["value"] (defScope s_is_whole) := ⟨rfl, rfl, rfl, by decide +kernel, rfl, by decide +kernel, by decide +kernel⟩
theorem qf_whole (M : Mod K mg base) (T : D K mg) : QF P w K mg base 1 T.f_is_whole T.d_is_whole ["value"] (fun ds d => ∃ x, ds = [x] ∧ d = .bool (wholeD x)) := by
  refine qf_of M T.U_is_whole sc_whole (by decide +kernel) (by with_unfolding_all rfl) (fun ds d h => ?_) (fun env m h0 us ds d hsc C hm hv h => ?_)
  · obtain ⟨x, rfl, _⟩ := h
    rfl
  · obtain ⟨x, rfl, rfl⟩ := h
    match us, hv with
    | [u], .cons r .nil =>
      have n0 := hm 0 "value" u rfl rfl
      have e : (x.isInt && !x.isBool) = wholeD x := by cases x <;> rfl
      rw [← e]
      exact qe_and (qe_isi C (qe_name C (by rw [hsc]; decide +kernel) n0 r) (by rw [hsc]; decide +kernel) T.isinstance (by rw [hsc]; decide +kernel) T.int (by decide +kernel) (by decide) (by decide) (fun r h => PySem.W.isinstance_int_data r h))
        (fun _ => qe_one (qe_not (qe_isi C (qe_name C (by rw [hsc]; decide +kernel) n0 r) (by rw [hsc]; decide +kernel) T.isinstance (by rw [hsc]; decide +kernel) T.bool (by decide +kernel) (by decide) (by decide) (fun r h => PySem.W.isinstance_bool_data r h))))
theorem sc_betw : FnScope ["value", "low", "high"] ["value", "low", "high"] (defScope s_is_between) := ⟨rfl, rfl, rfl, by decide +kernel, rfl, by decide +kernel, by decide +kernel⟩
theorem qf_betw (M : Mod K mg base) (T : D K mg) : QF P w K mg base 2 T.f_is_between T.d_is_between ["value", "low", "high"] (fun ds d => ∃ x lo hi, ds = [x, .int lo, .int hi] ∧ d = .bool (betwD x lo hi)) := by
  refine qf_of M T.U_is_between sc_betw (by decide +kernel) (by with_unfolding_all rfl) (fun ds d h => ?_) (fun env m h0 us ds d hsc C hm hv h => ?_)
  · obtain ⟨x, lo, hi, rfl, _⟩ := h
    rfl
  · obtain ⟨x, lo, hi, rfl, rfl⟩ := h
    match us, hv with
    | [u, a, b], .cons r (.cons ra (.cons rb .nil)) =>
      have n0 := hm 0 "value" u rfl rfl
      have n1 := hm 1 "low" a rfl rfl
      have n2 := hm 2 "high" b rfl rfl
      have e : (wholeD x && betwD x lo hi) = betwD x lo hi := by cases x <;> rfl
      rw [← e]
      refine qe_and (qe_call C (qf_whole M T) (by rw [hsc]; decide +kernel) T.g_is_whole T.U_is_whole.kp T.b_is_whole (qes_cons (qe_name C (by rw [hsc]; decide +kernel) n0 r) qes_nil) ⟨x, rfl, rfl⟩) (fun hw => qe_one ?_)
      cases x with
      | int n => exact qe_chain (qe_name C (by rw [hsc]; decide +kernel) n1 ra) (qe_name C (by rw [hsc]; decide +kernel) n0 r) (qe_name C (by rw [hsc]; decide +kernel) n2 rb) (f := fun i j => decide (i ≤ j)) (g := fun i j => decide (i ≤ j)) (fun q => le_int q) (fun q => le_int q)
      | _ => cases hw
theorem sc_row : FnScope ["value", "low", "high"] ["value", "low", "high"] (defScope s_is_tuple) := ⟨rfl, rfl, rfl, by decide +kernel, rfl, by decide +kernel, by decide +kernel⟩
theorem qf_row (M : Mod K mg base) (T : D K mg) : QF P w K mg base 1 T.f_is_tuple T.d_is_tuple ["value", "low", "high"] (fun ds d => ∃ x lo hi, ds = [x, .int lo, .int hi] ∧ szD x ∧ d = .bool (rowD x lo hi)) := by
  refine qf_of M T.U_is_tuple sc_row (by decide +kernel) (by with_unfolding_all rfl) (fun ds d h => ?_) (fun env m h0 us ds d hsc C hm hv h => ?_)
  · obtain ⟨x, lo, hi, rfl, _⟩ := h
    rfl
  · obtain ⟨x, lo, hi, rfl, sz, rfl⟩ := h
    match us, hv with
    | [u, a, b], .cons r (.cons ra (.cons rb .nil)) =>
      have n0 := hm 0 "value" u rfl rfl
      have n1 := hm 1 "low" a rfl rfl
      have n2 := hm 2 "high" b rfl rfl
      have e : (x.isTuple && rowD x lo hi) = rowD x lo hi := by cases x <;> rfl
      rw [← e]
      refine qe_and (qe_isi C (qe_name C (by rw [hsc]; decide +kernel) n0 r) (by rw [hsc]; decide +kernel) T.isinstance (by rw [hsc]; decide +kernel) T.tuple (by decide +kernel) (by decide) (by decide) (fun r h => PySem.W.isinstance_tuple_data r h)) (fun hw => qe_one ?_)
      cases x with
      | tuple es => exact qe_chain (qe_name C (by rw [hsc]; decide +kernel) n1 ra) (qe_len C (qe_name C (by rw [hsc]; decide +kernel) n0 r) (by rw [hsc]; decide +kernel) T.len sz) (qe_name C (by rw [hsc]; decide +kernel) n2 rb) (f := fun i j => decide (i ≤ j)) (g := fun i j => decide (i ≤ j)) (fun q => le_int q) (fun q => le_int q)
      | _ => cases hw
theorem lim_row (x : PyData) : (rowD x 2 2 && limD x) = limD x := by
  cases x with
  | tuple l =>
    match l with
    | [] => rfl
    | [_] => rfl
    | [a, b] => show (true && _) = _; rfl
    | _ :: _ :: _ :: _ => show (_ && false) = false; rw [Bool.and_false]
  | _ => rfl
theorem row2 {x : PyData} (h : rowD x 2 2 = true) : ∃ a b, x = .tuple [a, b] := by
  cases x with
  | tuple l =>
    have h : (decide (2 ≤ ((l.length : Nat) : Int)) && decide (((l.length : Nat) : Int) ≤ 2)) = true := h
    simp only [Bool.and_eq_true, decide_eq_true_eq] at h
    match l, h with
    | [], h => simp at h
    | [_], h => simp at h
    | [a, b], _ => exact ⟨a, b, rfl⟩
    | _ :: _ :: _ :: _, h => simp at h; omega
  | _ => cases h
theorem sc_limit : FnScope ["value"] ["value"] (defScope s_is_limit) := ⟨rfl, rfl, rfl, by decide +kernel, rfl, by decide +kernel, by decide +kernel⟩
theorem qf_limit (M : Mod K mg base) (T : D K mg) : QF P w K mg base 3 T.f_is_limit T.d_is_limit ["value"] (fun ds d => ∃ x, ds = [x] ∧ szD x ∧ d = .bool (limD x)) := by
  refine qf_of M T.U_is_limit sc_limit (by decide +kernel) (by with_unfolding_all rfl) (fun ds d h => ?_) (fun env m h0 us ds d hsc C hm hv h => ?_)
  · obtain ⟨x, rfl, _⟩ := h
    rfl
  · obtain ⟨x, rfl, sz, rfl⟩ := h
    match us, hv with
    | [u], .cons r .nil =>
      have n0 := hm 0 "value" u rfl rfl
      have mz : 5000 ≤ sizeLine := by decide
      rw [← lim_row x]
      refine qe_and (qe_call C (QF.mono (qf_row M T) (by decide)) (by rw [hsc]; decide +kernel) T.g_is_tuple T.U_is_tuple.kp T.b_is_tuple (qes_cons (qe_name C (by rw [hsc]; decide +kernel) n0 r) (qes_cons qe_int (qes_cons qe_int qes_nil))) ⟨x, _, _, rfl, sz, rfl⟩) (fun hw => ?_)
      obtain ⟨a, b, rfl⟩ := row2 hw
      exact qe_and (qe_call C (qf_betw M T) (by rw [hsc]; decide +kernel) T.g_is_between T.U_is_between.kp T.b_is_between (qes_cons (qe_ix (ds := [a, b]) (i := 0) (qe_name C (by rw [hsc]; decide +kernel) n0 r) rfl (by show 2 ≤ sizeLine; omega)) (qes_cons qe_int (qes_cons (qe_gint C (by rw [hsc]; decide +kernel) T.g_MOST_ASKS) qes_nil))) ⟨a, _, _, rfl, rfl⟩)
        (fun _ => qe_one (qe_call C (qf_betw M T) (by rw [hsc]; decide +kernel) T.g_is_between T.U_is_between.kp T.b_is_between (qes_cons (qe_ix (ds := [a, b]) (i := 1) (qe_name C (by rw [hsc]; decide +kernel) n0 r) rfl (by show 2 ≤ sizeLine; omega)) (qes_cons qe_int (qes_cons (qe_gint C (by rw [hsc]; decide +kernel) T.g_WIDEST) qes_nil))) ⟨b, _, _, rfl, rfl⟩))
end
end KP

set_option Elab.async false
set_option maxRecDepth 100000
set_option maxHeartbeats 4000000
set_option linter.all false
/-! Ours: limits, hours, rules of values of any kind. -/
namespace KP
open PySem PySem.Spec PyProof.Rows L2 Gr GxR
theorem gens_mk {env : Env} {scope : Scope} {x : Str} (h1 : scope.kind = .function) (h2 : scope.isCoroutine = false) (h3 : ∀ y ∈ scope.names, y.2 ≠ .cell) (h4 : scope.names.lookup (".0" : Str) = some NameKind.local) (h5 : scope.names.lookup x = some .local)
    (h6 : ∀ y ∈ scope.names, y.2 ≠ .free) : GenS env scope x := ⟨h1, h2, h3, h4, h5, fun y hy e => absurd e (h6 y hy)⟩
structure Tabs {K : PySem.W.Frag} {mg : Str → Option Value} (base : Heap) (T : D K mg) : Prop where
  a : TabB base mg T.c_are_limits T.P_are_limits
  b : TabB base mg T.c_are_hours T.P_are_hours
def tabs {K : PySem.W.Frag} {mg : Str → Option Value} (T : D K mg) : List Addr := [T.P_are_limits, T.P_are_hours]
def elems : PyData → List PyData
  | .tuple l => l
  | _ => []
def limsD (d : PyData) : Bool := rowD d 0 4 && (elems d).all limD
def hoursD (d : PyData) : Bool := rowD d 1 12 && ((elems d).all (fun x => betwD x 0 1) && hasOne 1 (elems d))
def rulesD : PyData → Bool
  | .tuple [a, b] => limsD a && hoursD b
  | _ => false
def anyD : PyData → Prop := fun _ => True
section
variable {P : Program} {w : World} {K : PySem.W.Frag} {mg : Str → Option Value} {base : Heap}
theorem ok_whole (T : D K mg) : FnOk P w K mg base CX0 1 T.f_is_whole T.d_is_whole ["value"] spWhole := by
  refine T.U_is_whole.ok sc_whole (fun vs H Q E h => ?_) (fun cdv A outer s H vs Q E hr h => ?_)
  · obtain ⟨v, d, rfl, _⟩ := h
    rfl
  · obtain ⟨v, d, rfl, hd, k⟩ := h
    have nd := sc_whole.nd
    refine ⟨_, pss_one (ps_ret (pe_and (pe_callB call_isi (by rfl) T.isinstance (by decide +kernel) (pa_cons (pv 0) (pa_cons (pe_bltn (v := .ty "int") (by rfl) T.int (by decide +kernel) rfl) pa_nil))) (pe_one (pe_not (pe_callB call_isi (by rfl) T.isinstance (by decide +kernel) (pa_cons (pv 0) (pa_cons (pe_bltn (v := .ty "bool") (by rfl) T.bool (by decide +kernel) rfl) pa_nil))))))), ?_⟩
    refine and_pure (isIntD d) (!isBoolD d) (fun Q' q' => ⟨_, rfl, _, _, _, _, _, rfl, .ty _, hd.ty, kInt d, q'⟩) (fun _ Q' q' => ⟨_, rfl, _, _, _, _, _, rfl, .ty _, hd.ty, kBool d, ?_⟩) ?_
    · exact ⟨_, rfl, q'⟩
    · have e : (isIntD d && !isBoolD d) = wholeD d := by cases d <;> rfl
      rw [e]
      exact k
theorem ok_betw (T : D K mg) : FnOk P w K mg base CX0 2 T.f_is_between T.d_is_between ["value", "low", "high"] spBetw := by
  refine T.U_is_between.ok sc_betw (fun vs H Q E h => ?_) (fun cdv A outer s H vs Q E hr h => ?_)
  · obtain ⟨v, d, lo, hi, rfl, _⟩ := h
    rfl
  · obtain ⟨v, d, lo, hi, rfl, hd, k⟩ := h
    refine ⟨_, pss_one (ps_ret (pe_and (pe_call (ok_whole T) hr rfl T.g_is_whole T.U_is_whole.kp T.b_is_whole .nil pass0 (pa_cons (pv 0) pa_nil)) (pe_one (pe_chain op_le op_le (pv 1) (pv 0) (pv 2))))), ?_⟩
    refine and_pure (wholeD d) (betwD d lo hi) (fun Q' q' => ⟨_, rfl, _, _, rfl, hd, q'⟩) (fun hw Q' q' => ?_) ?_
    · cases hd with
      | int n =>
        refine ⟨_, rfl, _, rfl, _, _, rfl, rfl, _, rfl, ite2 (fun h1 => ⟨_, rfl, _, _, rfl, rfl, ?_⟩) (fun h1 => ?_)⟩
        · have e : betwD (.int n) lo hi = decide (n ≤ hi) := by
            show (decide (lo ≤ n) && decide (n ≤ hi)) = _
            rw [h1, Bool.true_and]
          rw [e] at q'
          exact q'
        · have e : betwD (.int n) lo hi = false := by
            show (decide (lo ≤ n) && decide (n ≤ hi)) = _
            rw [Bool.eq_false_iff.mpr h1, Bool.false_and]
          rw [e] at q'
          exact q'
      | _ => cases hw
    · have e : (wholeD d && betwD d lo hi) = betwD d lo hi := by cases d <;> rfl
      rw [e]
      exact k
theorem ok_row (T : D K mg) : FnOk P w K mg base CX0 1 T.f_is_tuple T.d_is_tuple ["value", "low", "high"] spRow := by
  refine T.U_is_tuple.ok sc_row (fun vs H Q E h => ?_) (fun cdv A outer s H vs Q E hr h => ?_)
  · obtain ⟨v, d, lo, hi, rfl, _⟩ := h
    rfl
  · obtain ⟨v, d, lo, hi, rfl, hd, k⟩ := h
    refine ⟨_, pss_one (ps_ret (pe_and (pe_callB call_isi (by rfl) T.isinstance (by decide +kernel) (pa_cons (pv 0) (pa_cons (pe_bltn (v := .ty "tuple") (by rfl) T.tuple (by decide +kernel) rfl) pa_nil))) (pe_one (pe_chain op_le op_le (pv 1) (pe_callB call_len_seq (by rfl) T.len PySem.boot_len (pa_cons (pv 0) pa_nil)) (pv 2))))), ?_⟩
    refine and_pure (isTupD d) (rowD d lo hi) (fun Q' q' => ⟨_, rfl, _, _, _, _, _, rfl, .ty _, hd.ty, kTup d, q'⟩) (fun hw Q' q' => ?_) ?_
    · cases hd with
      | tup e a =>
        rename_i ad xs ds
        have el := a.len
        refine ⟨_, rfl, _, rfl, ad, _, rfl, .inr (SqT.of e), _, _, rfl, rfl, _, rfl, ite2 (fun h1 => ⟨_, rfl, _, _, rfl, rfl, ?_⟩) (fun h1 => ?_)⟩
        · have e : rowD (.tuple ds) lo hi = decide (((xs.length : Nat) : Int) ≤ hi) := by
            show (decide (lo ≤ (ds.length : Nat)) && decide (((ds.length : Nat) : Int) ≤ hi)) = _
            rw [← el, h1, Bool.true_and]
          rw [e] at q'
          exact q'
        · have e : rowD (.tuple ds) lo hi = false := by
            show (decide (lo ≤ (ds.length : Nat)) && decide (((ds.length : Nat) : Int) ≤ hi)) = _
            rw [← el, Bool.eq_false_iff.mpr h1, Bool.false_and]
          rw [e] at q'
          exact q'
      | _ => cases hw
    · have e : (isTupD d && rowD d lo hi) = rowD d lo hi := by cases d <;> rfl
      rw [e]
      exact k
end

theorem OdAll.ints {H : Hp} : ∀ {xs : List V} {ds : List PyData}, OdAll H xs ds → (∀ d ∈ ds, wholeD d = true) → ∃ ns : List Int, xs = ns.map V.int ∧ ds = ns.map PyData.int
  | _, _, .nil, _ => ⟨[], rfl, rfl⟩
  | _, _, .cons a b, h => by
    obtain ⟨ns, e1, e2⟩ := OdAll.ints b fun d hd => h d (List.mem_cons_of_mem _ hd)
    cases a with
    | int i => exact ⟨i :: ns, by rw [e1]; rfl, by rw [e2]; rfl⟩
    | non => cases h _ List.mem_cons_self
    | bl _ => cases h _ List.mem_cons_self
    | str _ => cases h _ List.mem_cons_self
    | lst _ _ => cases h _ List.mem_cons_self
    | tup _ _ => cases h _ List.mem_cons_self
    | dic _ _ _ => cases h _ List.mem_cons_self
theorem ints_flat (ns : List Int) : (ns.map V.int).all flatV = true := by
  induction ns with
  | nil => rfl
  | cons n l ih => rw [List.map_cons, List.all_cons, ih]; rfl
theorem ints_in (i : Int) (ns : List Int) : inV (.int i) (ns.map V.int) = hasOne i (ns.map PyData.int) := by
  induction ns with
  | nil => rfl
  | cons n l ih =>
    unfold inV at ih ⊢
    rw [List.map_cons, List.any_cons, ih]
    rfl
theorem betw_whole {d : PyData} {lo hi : Int} (h : betwD d lo hi = true) : wholeD d = true := by
  cases d <;> first | rfl | cases h
theorem row_tup {d : PyData} {lo hi : Int} (h : rowD d lo hi = true) : ∃ ds, d = .tuple ds ∧ lo ≤ (ds.length : Nat) ∧ ((ds.length : Nat) : Int) ≤ hi := by
  cases d with
  | tuple ds =>
    have h : (decide (lo ≤ (ds.length : Nat)) && decide (((ds.length : Nat) : Int) ≤ hi)) = true := h
    rw [Bool.and_eq_true, decide_eq_true_eq, decide_eq_true_eq] at h
    exact ⟨ds, rfl, h⟩
  | _ => cases h
theorem od_tup {H : Hp} {v : V} {ds : List PyData} (h : Od H v (.tuple ds)) : ∃ a xs, v = .ref a ∧ H a = some (.tup xs) ∧ OdAll H xs ds := by
  cases h with
  | tup e o => exact ⟨_, _, rfl, e, o⟩
theorem OdAll.get {H : Hp} : ∀ {vs : List V} {ds : List PyData}, OdAll H vs ds → ∀ {i : Nat} {d : PyData}, ds[i]? = some d → ∃ v, vs[i]? = some v ∧ Od H v d
  | _, _, .nil, i, d, e => by cases e
  | _, _, .cons a b, 0, d, e => by cases e; exact ⟨_, rfl, a⟩
  | _, _, .cons a b, i + 1, d, e => OdAll.get b e
section
variable {P : Program} {w : World} {K : PySem.W.Frag} {mg : Str → Option Value} {base : Heap}
theorem sc_lims : FnScope ["value"] ["value"] (defScope s_are_limits) := ⟨rfl, rfl, rfl, by decide +kernel, rfl, by decide +kernel, by decide +kernel⟩
theorem ok_lims (T : D K mg) (TB : Tabs base T) : FnOk P w K mg base CX0 5 T.f_are_limits T.d_are_limits ["value"] (spD (tabs T) anyD limsD) := by
  refine T.V_are_limits.ok sc_lims (fun vs H Q E h => ?_) (fun A outer s H vs Q E hr h => ?_)
  · obtain ⟨v, d, rfl, _⟩ := h
    rfl
  · obtain ⟨v, d, rfl, hd, _, hT, k⟩ := h
    refine ⟨_, pss_one (ps_ret (pe_and (pe_call (ok_row T) (hr.mono (by decide)) rfl T.g_is_tuple T.U_is_tuple.kp T.b_is_tuple .nil pass0 (pa_cons (pv 0) (pa_cons pe_int (pa_cons (pe_glob (v := .int 4) rfl T.g_MOST_PAIRS ⟨_, rfl⟩) pa_nil))))
      (pe_one (pe_allD (pb := limD) (k := 3) hr (by rfl) T.all TB.a rfl (gens_mk rfl rfl (by decide +kernel) (by rfl) (by rfl) (by decide +kernel)) (pv 0)
        (fun en m h0 v d hsc C hm hv sz => qe_call C (qf_limit C.mod T) (by rw [hsc]; decide +kernel) T.g_is_limit T.U_is_limit.kp T.b_is_limit (qes_cons (qe_name C (by rw [hsc]; decide +kernel) hm hv) qes_nil) ⟨d, rfl, sz, rfl⟩) (fun _ => rfl))))), ?_⟩
    refine ⟨_, rfl, v, d, _, _, rfl, hd, _, rfl, ?_⟩
    cases hq : rowD d 0 4 with
    | false =>
      have q := k H (.refl hT)
      have e : limsD d = false := by unfold limsD; rw [hq]; rfl
      rw [e] at q
      exact iteF q
    | true =>
      obtain ⟨ds, rfl, _⟩ := row_tup hq
      refine iteT ⟨_, rfl, ds, hd.dq, hT _ (by simp [tabs]), fun H2 t2 => ?_⟩
      have q := k H2 (.tab hT t2 (by simp [tabs]))
      have e : limsD (.tuple ds) = ds.all limD := by unfold limsD; rw [hq]; rfl
      rw [e] at q
      exact q
theorem sc_hours : FnScope ["value"] ["value"] (defScope s_are_hours) := ⟨rfl, rfl, rfl, by decide +kernel, rfl, by decide +kernel, by decide +kernel⟩
theorem ok_hours (T : D K mg) (TB : Tabs base T) : FnOk P w K mg base CX0 5 T.f_are_hours T.d_are_hours ["value"] (spD (tabs T) anyD hoursD) := by
  refine T.V_are_hours.ok sc_hours (fun vs H Q E h => ?_) (fun A outer s H vs Q E hr h => ?_)
  · obtain ⟨v, d, rfl, _⟩ := h
    rfl
  · obtain ⟨v, d, rfl, hd, _, hT, k⟩ := h
    refine ⟨_, pss_one (ps_ret (pe_and (pe_call (ok_row T) (hr.mono (by decide)) rfl T.g_is_tuple T.U_is_tuple.kp T.b_is_tuple .nil pass0 (pa_cons (pv 0) (pa_cons pe_int (pa_cons (pe_glob (v := .int 12) rfl T.g_WIDEST ⟨_, rfl⟩) pa_nil))))
      (pe_and (pe_allD (pb := fun x => betwD x 0 1) (k := 3) hr (by rfl) T.all TB.b rfl (gens_mk rfl rfl (by decide +kernel) (by rfl) (by rfl) (by decide +kernel)) (pv 0)
        (fun en m h0 v d hsc C hm hv sz => qe_call C (QF.mono (qf_betw C.mod T) (by decide)) (by rw [hsc]; decide +kernel) T.g_is_between T.U_is_between.kp T.b_is_between (qes_cons (qe_name C (by rw [hsc]; decide +kernel) hm hv) (qes_cons qe_int (qes_cons qe_int qes_nil))) ⟨d, _, _, rfl, rfl⟩) (fun _ => rfl))
        (pe_one (pe_cmpR op_in_seq pe_int (pv 0) rfl))))), ?_⟩
    refine ⟨_, rfl, v, d, _, _, rfl, hd, _, rfl, ?_⟩
    cases hq : rowD d 1 12 with
    | false =>
      have q := k H (.refl hT)
      have e : hoursD d = false := by unfold hoursD; rw [hq]; rfl
      rw [e] at q
      exact iteF q
    | true =>
      obtain ⟨ds, rfl, _⟩ := row_tup hq
      have e : hoursD (.tuple ds) = (ds.all (fun x => betwD x 0 1) && hasOne 1 ds) := by unfold hoursD; rw [hq]; rfl
      refine iteT ⟨_, rfl, ds, hd.dq, hT _ (by simp [tabs]), fun H2 t2 => ⟨_, rfl, ?_⟩⟩
      have u2 : UpL (tabs T) H H2 := .tab hT t2 (by simp [tabs])
      have q := k H2 u2
      rw [e] at q
      cases ha : ds.all (fun x => betwD x 0 1) with
      | false =>
        rw [ha] at q
        exact iteF q
      | true =>
        rw [ha, Bool.true_and] at q
        have hd2 : Od H2 v (.tuple ds) := hd.stay (u2.stay hT)
        obtain ⟨a, xs, rfl, ea, oa⟩ := od_tup hd2
        obtain ⟨ns, rfl, rfl⟩ := OdAll.ints oa fun d hd => betw_whole (List.all_eq_true.mp ha d hd)
        rw [← ints_in] at q
        exact iteT ⟨_, rfl, a, _, rfl, .inr (SqT.of ea), rfl, ints_flat ns, q⟩
theorem sc_rules : FnScope ["value"] ["value"] (defScope s_are_rules) := ⟨rfl, rfl, rfl, by decide +kernel, rfl, by decide +kernel, by decide +kernel⟩
theorem rules_row (x : PyData) (h : rowD x 2 2 = false) : rulesD x = false := by
  cases x with
  | tuple l =>
    match l, h with
    | [], _ => rfl
    | [_], _ => rfl
    | [a, b], h => cases h
    | _ :: _ :: _ :: _, _ => rfl
  | _ => rfl
theorem ok_rules (T : D K mg) (TB : Tabs base T) : FnOk P w K mg base CX0 6 T.f_are_rules T.d_are_rules ["value"] (spD (tabs T) anyD rulesD) := by
  refine T.U_are_rules.ok sc_rules (fun vs H Q E h => ?_) (fun cdv A outer s H vs Q E hr h => ?_)
  · obtain ⟨v, d, rfl, _⟩ := h
    rfl
  · obtain ⟨v, d, rfl, hd, _, hT, k⟩ := h
    refine ⟨_, pss_one (ps_ret (pe_and (pe_call (ok_row T) (hr.mono (by decide)) rfl T.g_is_tuple T.U_is_tuple.kp T.b_is_tuple .nil pass0 (pa_cons (pv 0) (pa_cons pe_int (pa_cons pe_int pa_nil))))
      (pe_and (pe_call (ok_lims T TB) hr rfl T.g_are_limits T.U_are_limits.kp T.b_are_limits .nil pass0 (pa_cons (pe_ix ix_tup (pv 0) pe_int (fun _ _ => rfl)) pa_nil))
        (pe_one (pe_call (ok_hours T TB) hr rfl T.g_are_hours T.U_are_hours.kp T.b_are_hours .nil pass0 (pa_cons (pe_ix ix_tup (pv 0) pe_int (fun _ _ => rfl)) pa_nil)))))), ?_⟩
    refine ⟨_, rfl, v, d, _, _, rfl, hd, _, rfl, ?_⟩
    cases hq : rowD d 2 2 with
    | false =>
      have q := k H (.refl hT)
      rw [rules_row d hq] at q
      exact iteF q
    | true =>
      obtain ⟨x, y, rfl⟩ := row2 hq
      obtain ⟨a, xs, rfl, ea, oa⟩ := od_tup hd
      match xs, oa with
      | [vx, vy], .cons ox (.cons oy .nil) =>
        refine iteT ⟨_, rfl, a, [vx, vy], 0, vx, rfl, rfl, SqT.of ea, rfl, vx, x, rfl, ox, trivial, hT, fun H2 u2 => ⟨_, rfl, ?_⟩⟩
        have e : rulesD (.tuple [x, y]) = (limsD x && hoursD y) := rfl
        have s2 := u2.stay hT
        cases hx : limsD x with
        | false =>
          have q := k H2 u2
          rw [e, hx] at q
          exact iteF q
        | true =>
          refine iteT ⟨_, rfl, a, [vx, vy], 1, vy, rfl, rfl, SqT.of (s2 _ _ ea (fun _ z => nomatch z)), rfl, vy, y, rfl, oy.stay s2, trivial, u2.1, fun H3 u3 => ?_⟩
          have q := k H3 (u2.trans u3)
          rw [e, hx, Bool.true_and] at q
          exact q
/-- limits, or an error that never comes -/
def spChk (ps : List Addr) : Sp := fun vs H Q _ => ∃ v d, vs = [v] ∧ Od H v d ∧ limsD d = true ∧ Tb ps H ∧ ∀ H', UpL ps H H' → Q .non H'
theorem sc_chk : FnScope ["given"] ["given"] (defScope s_check_limits) := ⟨rfl, rfl, rfl, by decide +kernel, rfl, by decide +kernel, by decide +kernel⟩
theorem ok_chk (T : D K mg) (TB : Tabs base T) : FnOk P w K mg base CX0 6 T.f_check_limits T.d_check_limits ["given"] (spChk (tabs T)) := by
  refine T.U_check_limits.ok sc_chk (fun vs H Q E h => ?_) (fun cdv A outer s H vs Q E hr h => ?_)
  · obtain ⟨v, d, rfl, _⟩ := h
    rfl
  · obtain ⟨v, d, rfl, hd, hl, hT, k⟩ := h
    refine ⟨_, pss_one (ps_if (pt_not (pt_val (pe_call (ok_lims T TB) hr rfl T.g_are_limits T.U_are_limits.kp T.b_are_limits .nil pass0 (pa_cons (pv 0) pa_nil))))
        (pss_one ps_never)
        pss_nil), ?_⟩
    refine ⟨_, rfl, v, d, rfl, hd, trivial, hT, fun H2 u2 => ⟨_, rfl, ?_⟩⟩
    rw [hl]
    exact iteF (k H2 u2)
end
end KP

set_option Elab.async false
set_option maxRecDepth 100000
set_option maxHeartbeats 4000000
set_option linter.all false
/-! Ours: open hours; the first wrong ask. -/
namespace KP
open PySem PySem.Spec PyProof.Rows L2 Gr GxR
def openI (hs : List Int) (t : Int) : Bool := hs[(t % ((hs.length : Nat) : Int)).toNat]? == some 1
def spOpens : Sp := fun vs H Q _ => ∃ (hv : V) (hs : List Int) (t : Int), vs = [hv, .int t] ∧ Od H hv (.tuple (hs.map PyData.int)) ∧ 0 < hs.length ∧ Q (.bl (openI hs t)) H
theorem od_nums {H : Hp} {xs : List V} {ns : List Int} (o : OdAll H xs (ns.map PyData.int)) : xs = ns.map V.int := by
  induction ns generalizing xs with
  | nil => cases o; rfl
  | cons n l ih =>
    cases o with
    | cons a b =>
      cases a
      rw [ih b]
      rfl
section
variable {P : Program} {w : World} {K : PySem.W.Frag} {mg : Str → Option Value} {base : Heap}
theorem sc_opens : FnScope ["hours", "moment"] ["hours", "moment"] (defScope s_opens) := ⟨rfl, rfl, rfl, by decide +kernel, rfl, by decide +kernel, by decide +kernel⟩
theorem ok_opens (T : D K mg) : FnOk P w K mg base CX0 1 T.f_opens T.d_opens ["hours", "moment"] spOpens := by
  refine T.U_opens.ok sc_opens (fun vs H Q E h => ?_) (fun cdv A outer s H vs Q E hr h => ?_)
  · obtain ⟨hv, hs, t, rfl, _⟩ := h
    rfl
  · obtain ⟨hv, hs, t, rfl, ho, h0, k⟩ := h
    have nd := sc_opens.nd
    obtain ⟨a, xs, rfl, ea, oa⟩ := od_tup ho
    have exs := od_nums oa
    subst exs
    refine ⟨_, pss_one (ps_ret (pe_cmpR op_eq (pe_ix ix_tup (pv 0) (pe_op op_mod (pv 1) (pe_callB call_len_seq (by rfl) T.len PySem.boot_len (pa_cons (pv 0) pa_nil))) (fun _ _ => rfl)) pe_int (nomark _))), ?_⟩
    have hb := Int.emod_nonneg t (b := ((hs.length : Nat) : Int)) (by omega)
    have hc := Int.emod_lt_of_pos t (b := ((hs.length : Nat) : Int)) (by omega)
    have hj : (t % ((hs.length : Nat) : Int)).toNat < hs.length := by omega
    refine ⟨_, rfl, _, rfl, _, rfl, a, _, rfl, .inr (SqT.of ea), ?_⟩
    have ex : atI (hs.map V.int) (t % (((hs.map V.int).length : Nat) : Int)) = some (V.int hs[(t % ((hs.length : Nat) : Int)).toNat]) := by
      rw [List.length_map]
      obtain ⟨j, ej⟩ : ∃ j : Nat, t % ((hs.length : Nat) : Int) = (j : Int) := ⟨(t % ((hs.length : Nat) : Int)).toNat, by omega⟩
      have hj2 : j < hs.length := by omega
      refine (congrArg (atI (hs.map V.int)) ej).trans ((atI_nat (v := V.int hs[j]) ?_).trans ?_)
      · rw [List.getElem?_map, List.getElem?_eq_getElem hj2]
        rfl
      · congr 2
        congr 1
        omega
    refine ⟨_, _, rfl, rfl, by rw [List.length_map]; omega, a, _, _, _, rfl, rfl, SqT.of ea, ex, rfl, ?_⟩
    have e : decide (V.int hs[(t % ((hs.length : Nat) : Int)).toNat] = V.int 1) = openI hs t := by
      unfold openI
      rw [List.getElem?_eq_getElem hj, Bool.eq_iff_iff]
      simp
    rw [e]
    exact k
/-- a tuple of whole numbers -/
def IsI (H : Hp) (v : V) (ns : List Int) : Prop := ∃ a, v = .ref a ∧ H a = some (.tup (ns.map V.int))
theorem ints_od {H : Hp} : ∀ ns : List Int, OdAll H (ns.map V.int) (ns.map PyData.int)
  | [] => .nil
  | n :: ns => .cons (.int n) (ints_od ns)
theorem IsI.od {H : Hp} {v : V} {ns : List Int} (h : IsI H v ns) : Od H v (.tuple (ns.map PyData.int)) := by
  obtain ⟨a, rfl, o⟩ := h
  exact .tup o (ints_od ns)
theorem od_I {H : Hp} {v : V} {ns : List Int} (h : Od H v (.tuple (ns.map PyData.int))) : IsI H v ns := by
  obtain ⟨a, xs, rfl, e, o⟩ := od_tup h
  exact ⟨a, rfl, by rw [e, od_nums o]⟩
/-- t[:i] -/
theorem sl_to {K : PySem.W.Frag} {x : V} {ns : List Int} {i : Nat} {H : Hp} {Q : VK} (h : IsI H x ns) (hi : i < ns.length) (k : ∀ z H', Same H H' → IsI H' z (ns.take i) → Q z H') : rSlA K x none (some (i : Int)) H Q := by
  obtain ⟨a, rfl, o⟩ := h
  refine ⟨a, _, rfl, SqT.of o, fun q => ?_, fun _ p hp => k _ _ (same_upd hp) ⟨p, rfl, by rw [upd_same, cutV_to, List.map_take]⟩⟩
  exfalso
  rw [HT.sIx_nat, List.length_map] at q
  omega
def politeAt (ps : List (Int × Int)) (hs ns : List Int) (i : Nat) : Bool := openI hs (ns.getD i 0) && ps.all (apI (ns.take i) (ns.getD i 0))
def firstI (ps : List (Int × Int)) (hs ns : List Int) : Option Nat := (List.range ns.length).find? (fun i => !politeAt ps hs ns i)
def optV : Option Nat → V
  | some i => .int (i : Nat)
  | none => .non
def rulesP (ps : List (Int × Int)) (hs : List Int) : PyData := .tuple [.tuple ((ps.map inD).map tw), .tuple (hs.map PyData.int)]
theorem first_at {ps : List (Int × Int)} {hs ns : List Int} {i : Nat} (hi : i < ns.length) (h : ∀ j, j < i → politeAt ps hs ns j = true) (hb : politeAt ps hs ns i = false) : firstI ps hs ns = some i := by
  unfold firstI
  rw [List.find?_range_eq_some]
  refine ⟨by rw [hb]; rfl, List.mem_range.mpr hi, fun j hj => by rw [h j hj]; rfl⟩
theorem first_none {ps : List (Int × Int)} {hs ns : List Int} (h : ∀ j, j < ns.length → politeAt ps hs ns j = true) : firstI ps hs ns = none := by
  unfold firstI
  rw [List.find?_eq_none]
  intro j hj
  rw [h j (List.mem_range.mp hj)]
  decide
def spFirst (L : List Addr) : Sp := fun vs H Q _ => ∃ (rv av : V) (ps : List (Int × Int)) (hs ns : List Int), vs = [rv, av] ∧ Od H rv (rulesP ps hs) ∧ (∀ p ∈ ps, 1 ≤ p.1) ∧ 0 < hs.length ∧ Od H av (.tuple (ns.map PyData.int)) ∧ Tb L H ∧ ∀ H', UpL L H H' → Q (optV (firstI ps hs ns)) H'
end
end KP

set_option Elab.async false
set_option maxRecDepth 100000
set_option maxHeartbeats 4000000
set_option linter.all false
/-! Ours: the checks of right arguments; the functions. -/
namespace KP
open PySem PySem.Spec PyProof.Rows L2 Gr GxR
theorem gn {i : Nat} {v : V} {σ : L2.St} {H : Hp} {Q : L2.St → Hp → Prop} (h : Q (σ.set i (some v)) H) : gName i v σ H Q := h
theorem next_of {E : Ends} {σ : L2.St} {H : Hp} (h : E.nx σ H) : tNext E σ H := h
def spCk (L : List Addr) (f : PyData → Bool) : Sp := fun vs H Q _ => ∃ v d, vs = [v] ∧ Od H v d ∧ f d = true ∧ Tb L H ∧ ∀ H', UpL L H H' → Q .non H'
def spFrom : Sp := fun vs H Q _ => ∃ t lo : Int, vs = [.int t, .int lo] ∧ lo ≤ t ∧ Q .non H
def asc : Int → List Int → Prop
  | _, [] => True
  | m, n :: l => m ≤ n ∧ asc n l
def spBack : Sp := fun vs H Q _ => ∃ (v : V) (ns : List Int), vs = [v] ∧ Od H v (.tuple (ns.map PyData.int)) ∧ asc 0 ns ∧ ∀ H', Same H H' → Q .non H'
def spAsks : Sp := fun vs H Q _ => ∃ (v : V) (ns : List Int), vs = [v] ∧ Od H v (.tuple (ns.map PyData.int)) ∧ asc 0 ns ∧ ns.length ≤ 200 ∧ ∀ H', Same H H' → Q .non H'
def spPol (L : List Addr) : Sp := fun vs H Q _ => ∃ (rv av : V) (ps : List (Int × Int)) (hs ns : List Int), vs = [rv, av] ∧ Od H rv (rulesP ps hs) ∧ (∀ p ∈ ps, 1 ≤ p.1) ∧ 0 < hs.length ∧ Od H av (.tuple (ns.map PyData.int)) ∧ firstI ps hs ns = none ∧ Tb L H ∧ ∀ H', UpL L H H' → Q .non H'
section
variable {P : Program} {w : World} {K : PySem.W.Frag} {mg : Str → Option Value} {base : Heap}
theorem sc_ckr : FnScope ["given"] ["given"] (defScope s_check_rules) := ⟨rfl, rfl, rfl, by decide +kernel, rfl, by decide +kernel, by decide +kernel⟩
theorem ok_ckr (T : D K mg) (TB : Tabs base T) : FnOk P w K mg base CX0 7 T.f_check_rules T.d_check_rules ["given"] (spCk (tabs T) rulesD) := by
  refine T.U_check_rules.ok sc_ckr (fun vs H Q E h => ?_) (fun cdv A outer s H vs Q E hr h => ?_)
  · obtain ⟨v, d, rfl, _⟩ := h
    rfl
  · obtain ⟨v, d, rfl, hd, hl, hT, k⟩ := h
    refine ⟨_, pss_one (ps_if (pt_not (pt_val (pe_call (ok_rules T TB) hr rfl T.g_are_rules T.U_are_rules.kp T.b_are_rules .nil pass0 (pa_cons (pv 0) pa_nil))))
        (pss_one ps_never)
        pss_nil), ?_⟩
    refine ⟨_, rfl, v, d, rfl, hd, trivial, hT, fun H2 u2 => ⟨_, rfl, ?_⟩⟩
    rw [hl]
    exact iteF (k H2 u2)
end
end KP

set_option Elab.async false
set_option maxRecDepth 100000
set_option maxHeartbeats 4000000
set_option linter.all false
/-! Ours: the functions that are asked, of right arguments. -/
namespace KP
open PySem PySem.Spec PyProof.Rows L2 Gr GxR
def spIsOpen (L : List Addr) : Sp := fun vs H Q _ => ∃ (hv : V) (hs : List Int) (t : Int), vs = [hv, .int t] ∧ Od H hv (.tuple (hs.map PyData.int)) ∧ hoursD (.tuple (hs.map PyData.int)) = true ∧ 0 < hs.length ∧ 0 ≤ t ∧ Tb L H ∧ ∀ H', UpL L H H' → Q (.bl (openI hs t)) H'
structure Right (ps : List (Int × Int)) (hs ns : List Int) : Prop where
  r : rulesD (rulesP ps hs) = true
  p : ∀ p ∈ ps, 1 ≤ p.1
  h : 0 < hs.length
  a : asc 0 ns
  n : ns.length ≤ 200
def spFW (L : List Addr) : Sp := fun vs H Q _ => ∃ (rv av : V) (ps : List (Int × Int)) (hs ns : List Int), vs = [rv, av] ∧ Od H rv (rulesP ps hs) ∧ Od H av (.tuple (ns.map PyData.int)) ∧ Right ps hs ns ∧ Tb L H ∧ ∀ H', UpL L H H' → Q (optV (firstI ps hs ns)) H'
def spPolite (L : List Addr) : Sp := fun vs H Q _ => ∃ (rv av : V) (ps : List (Int × Int)) (hs ns : List Int), vs = [rv, av] ∧ Od H rv (rulesP ps hs) ∧ Od H av (.tuple (ns.map PyData.int)) ∧ Right ps hs ns ∧ Tb L H ∧ ∀ H', UpL L H H' → Q (.bl (firstI ps hs ns).isNone) H'
section
variable {P : Program} {w : World} {K : PySem.W.Frag} {mg : Str → Option Value} {base : Heap}
end
end KP

set_option Elab.async false
set_option maxRecDepth 100000
set_option maxHeartbeats 4000000
set_option linter.all false
/-! Ours: may_ask, of right arguments and polite asks. -/
namespace KP
open PySem PySem.Spec PyProof.Rows L2 Gr GxR
def spMay (L : List Addr) : Sp := fun vs H Q _ => ∃ (rv av : V) (ps : List (Int × Int)) (hs ns : List Int) (t : Int), vs = [rv, av, .int t] ∧ Od H rv (rulesP ps hs) ∧ Od H av (.tuple (ns.map PyData.int)) ∧ Right ps hs ns ∧ firstI ps hs ns = none ∧ 0 ≤ t ∧ (∀ x, atI ns (-1) = some x → x ≤ t) ∧ Tb L H ∧ ∀ H', UpL L H H' → Q (.bl (openI hs t && ps.all (apI ns t))) H'
theorem split_ifS {c : TT} {t u : TS} {rest : TS} {D : Ends} {σ : L2.St} {H : Hp} (P1 P2 : Hp → Prop) (hc : ∀ Q : Bool → Hp → Prop, (∀ H', P1 H' → Q true H') → (∀ H', P2 H' → Q false H') → c σ H Q) (h1 : ∀ H', P1 H' → t { D with nx := rest D } σ H') (h2 : ∀ H', P2 H' → u { D with nx := rest D } σ H') : tSeq (tIfS c t u) rest D σ H :=
  hc _ (fun H' q => iteT (h1 H' q)) (fun H' q => iteF (h2 H' q))
theorem atI_mapV {ns : List Int} {i x : Int} (h : atI ns i = some x) : atI (ns.map V.int) i = some (.int x) := by
  unfold atI at h ⊢
  rw [List.length_map]
  cases e : ixN ns.length i with
  | none => rw [e] at h; cases h
  | some j =>
    rw [e] at h
    have h : ns[j]? = some x := h
    show (ns.map V.int)[j]? = _
    rw [List.getElem?_map, h]
    rfl
section
variable {P : Program} {w : World} {K : PySem.W.Frag} {mg : Str → Option Value} {base : Heap}
end
end KP

set_option Elab.async false
set_option maxRecDepth 100000
set_option linter.all false
/-! Ours: keeping apart is counting: mathematics. -/
namespace KP
open PySem PySem.Spec PyProof.Rows L2 Gr GxR
def Srt (ns : List Int) : Prop := ∀ (i j : Nat) (hi : i < ns.length) (hj : j < ns.length), i ≤ j → ns[i] ≤ ns[j]
theorem asc_get : ∀ {ns : List Int} {m : Int}, asc m ns → ∀ (i : Nat) (hi : i < ns.length), m ≤ ns[i]
  | n :: l, m, h, 0, _ => h.1
  | n :: l, m, h, i + 1, hi => by
    have hi' : i < l.length := by simpa using hi
    have a := asc_get h.2 i hi'
    have b := h.1
    show m ≤ l[i]
    omega
theorem asc_srt : ∀ {ns : List Int} {m : Int}, asc m ns → Srt ns
  | [], _, _, i, j, hi, _, _ => absurd hi (Nat.not_lt_zero _)
  | n :: l, m, h, 0, 0, _, _, _ => Int.le_refl _
  | n :: l, m, h, 0, j + 1, _, hj, _ => asc_get h.2 j (by simpa using hj)
  | n :: l, m, h, i + 1, 0, _, _, hij => absurd hij (Nat.not_succ_le_zero _)
  | n :: l, m, h, i + 1, j + 1, hi, hj, hij => asc_srt h.2 i j (by simpa using hi) (by simpa using hj) (by omega)
def above (c : Int) (ns : List Int) : Nat := ns.countP (fun x => decide (c < x))
theorem above_split (c : Int) (ns : List Int) (m : Nat) : above c ns = above c (ns.take m) + above c (ns.drop m) := by
  unfold above
  rw [← List.countP_append, List.take_append_drop]
theorem above_all {c : Int} {ns : List Int} (h : ∀ x ∈ ns, c < x) : above c ns = ns.length := by
  unfold above
  rw [List.countP_eq_length]
  intro x hx
  exact decide_eq_true (h x hx)
theorem above_none {c : Int} {ns : List Int} (h : ∀ x ∈ ns, x ≤ c) : above c ns = 0 := by
  unfold above
  rw [List.countP_eq_zero]
  intro x hx q
  have := of_decide_eq_true q
  have := h x hx
  omega
theorem above_le (c : Int) (ns : List Int) : above c ns ≤ ns.length := List.countP_le_length
/-- k or more stand above c exactly if the one k from the end does -/
theorem above_iff {ns : List Int} (hs : Srt ns) {c : Int} {k : Nat} (hk : 1 ≤ k) (hl : k ≤ ns.length) : k ≤ above c ns ↔ c < ns[ns.length - k] := by
  constructor
  · intro h
    by_cases q : c < ns[ns.length - k]
    · exact q
    · exfalso
      have e := above_split c ns (ns.length - k + 1)
      have z : above c (ns.take (ns.length - k + 1)) = 0 := above_none fun x hx => by
        obtain ⟨i, hi, rfl⟩ := List.getElem_of_mem hx
        rw [List.length_take] at hi
        rw [List.getElem_take]
        have := hs i (ns.length - k) (by omega) (by omega) (by omega)
        omega
      have d := above_le c (ns.drop (ns.length - k + 1))
      rw [List.length_drop] at d
      omega
  · intro h
    have e := above_split c ns (ns.length - k)
    have z : above c (ns.drop (ns.length - k)) = (ns.drop (ns.length - k)).length := above_all fun x hx => by
      obtain ⟨i, hi, rfl⟩ := List.getElem_of_mem hx
      rw [List.length_drop] at hi
      rw [List.getElem_drop]
      have := hs (ns.length - k) (ns.length - k + i) (by omega) (by omega) (by omega)
      omega
    rw [List.length_drop] at z
    omega
/-- with t itself no more than k stand within the last w moments -/
theorem ap_count {ns : List Int} (hs : Srt ns) {t : Int} {q : Int × Int} (h1 : 1 ≤ q.1) : apI ns t q = decide (((above (t - q.2) ns : Nat) : Int) < q.1) := by
  have hle := above_le (t - q.2) ns
  unfold apI
  by_cases hl : ((ns.length : Nat) : Int) < q.1
  · rw [decide_eq_true hl, decide_eq_true (by omega), Bool.true_or]
  · rw [decide_eq_false hl, Bool.false_or]
    obtain ⟨x, hx⟩ := atI_some h1 hl
    rw [hx]
    have hk : 1 ≤ q.1.toNat := by omega
    have hl' : q.1.toNat ≤ ns.length := by omega
    have ex : x = ns[ns.length - q.1.toNat] := by
      unfold atI ixN at hx
      rw [if_neg (by omega), if_pos (by omega)] at hx
      have hx : ns[(-q.1 + ((ns.length : Nat) : Int)).toNat]? = some x := hx
      have e : (-q.1 + ((ns.length : Nat) : Int)).toNat = ns.length - q.1.toNat := by omega
      rw [e, List.getElem?_eq_getElem (by omega)] at hx
      exact (Option.some.inj hx).symm
    have := above_iff hs (c := t - q.2) hk hl'
    rw [← ex] at this
    show decide (q.2 ≤ t - x) = _
    rw [Bool.eq_iff_iff, decide_eq_true_eq, decide_eq_true_eq]
    constructor
    · intro h
      have : ¬ q.1.toNat ≤ above (t - q.2) ns := fun z => by
        have := this.mp z
        omega
      omega
    · intro h
      have : ¬ t - q.2 < x := fun z => by
        have := this.mpr z
        omega
      omega
end KP

set_option Elab.async false
set_option maxRecDepth 100000
set_option maxHeartbeats 4000000
set_option linter.all false
/-! Ours: the law's open hours; its first wrong ask by a list's length. -/
namespace KP
open PySem PySem.Spec PyProof.Rows L2 Gr GxR
theorem ix_tupB {X : Cx} {s : Shared} {H : Hp} {sc : Scope} {en : Env} {fp : List Addr} : IxR (X.blk s H sc en fp) (rIxT X.K) := ix_tup
theorem IsI.same {H H1 : Hp} {v : V} {ns : List Int} (h : IsI H v ns) (s : Same H H1) : IsI H1 v ns := let ⟨a, e, o⟩ := h; ⟨a, e, s _ _ o⟩
/-- t[:i], all of it too -/
theorem sl_upto {K : PySem.W.Frag} {x : V} {ns : List Int} {i : Nat} {H : Hp} {Q : VK} (h : IsI H x ns) (k : ∀ z H', Same H H' → IsI H' z (ns.take i) → Q z H') : rSlA K x none (some (i : Int)) H Q := by
  obtain ⟨a, rfl, o⟩ := h
  refine ⟨a, _, rfl, SqT.of o, fun q => ?_, fun _ p hp => k _ _ (same_upd hp) ⟨p, rfl, by rw [upd_same, cutV_to, List.map_take]⟩⟩
  rw [HT.sIx_nat, List.length_map] at q
  refine k _ _ (.refl _) ⟨a, rfl, ?_⟩
  rw [List.take_of_length_le (by omega)]
  exact o
def spWrongAt : Sp := fun vs H Q _ => ∃ (lv hv av : V) (ps : List (Int × Int)) (hs ns : List Int), vs = [lv, hv, av] ∧ Od H lv (.tuple ((ps.map inD).map tw)) ∧ (∀ p ∈ ps, 1 ≤ p.1 ∧ 1 ≤ p.2 ∧ p.2 ≤ 1000) ∧ Od H hv (.tuple (hs.map PyData.int)) ∧ 0 < hs.length ∧ Od H av (.tuple (ns.map PyData.int)) ∧ Srt ns ∧ ns.length ≤ 1000 ∧ ∀ H', Same H H' → Q (optV (firstI ps hs ns)) H'
theorem ifop {r : R2} {t1 t2 : TE} {t u : TS} {D : Ends} {σ : L2.St} {H : Hp} (h : t1 σ H fun x H1 => t2 σ H1 fun y H2 => r x y H2 fun x H' => ∃ k, x = V.bl k ∧ if k = true then t D σ H' else u D σ H') : tIfS (tTest (tOp r t1 t2)) t u D σ H := h
theorem pair_at {H : Hp} : ∀ {ls : List V} {ps : List (Int × Int)}, OdAll H ls ((ps.map inD).map tw) → ∀ {i : Nat} {x : V}, ls[i]? = some x → ∃ p b, ps[i]? = some p ∧ x = .ref b ∧ H b = some (.tup [.int p.1, .int p.2])
  | _, [], .nil, i, x, h => by cases h
  | _, p :: ps, .cons a _, 0, x, h => by
    cases h
    obtain ⟨b, xs, rfl, e, o⟩ := od_tup a
    match xs, o with
    | [y, z], .cons o1 (.cons o2 .nil) =>
      cases o1
      cases o2
      exact ⟨p, b, rfl, rfl, e⟩
  | _, p :: ps, .cons _ r, i + 1, x, h => pair_at (ps := ps) r (i := i) h
theorem above_len (c : Int) (l : List Int) : above c l = (l.filter fun x => decide (c < x)).length := List.countP_eq_length_filter
theorem above_take {ns : List Int} {i : Nat} (hi : i < ns.length) {w : Int} (hw : 1 ≤ w) : above (ns[i] - w) (ns.take (i + 1)) = above (ns[i] - w) (ns.take i) + 1 := by
  rw [List.take_add_one, List.getElem?_eq_getElem hi]
  unfold above
  rw [List.countP_append]
  congr 1
  show List.countP _ [ns[i]] = 1
  rw [List.countP_cons_of_pos (by exact decide_eq_true (by omega)), List.countP_nil]
theorem srt_take {ns : List Int} (h : Srt ns) (i : Nat) : Srt (ns.take i) := fun a b ha hb hab => by
  rw [List.length_take] at ha hb
  rw [List.getElem_take, List.getElem_take]
  exact h a b (by omega) (by omega) hab
section
variable {P : Program} {w : World} {K : PySem.W.Frag} {mg : Str → Option Value} {base : Heap}
theorem sc_lopen : FnScope ["_law_clock", "_law_time"] ["_law_clock", "_law_time"] (defScope s_l_open) := ⟨rfl, rfl, rfl, by decide +kernel, rfl, by decide +kernel, by decide +kernel⟩
theorem ok_lopen (T : D K mg) : FnOk P w K mg base CX0 1 T.f_l_open T.d_l_open ["_law_clock", "_law_time"] spOpens := by
  refine T.U_l_open.ok sc_lopen (fun vs H Q E h => ?_) (fun cdv A outer s H vs Q E hr h => ?_)
  · obtain ⟨hv, hs, t, rfl, _⟩ := h
    rfl
  · obtain ⟨hv, hs, t, rfl, ho, h0, k⟩ := h
    have nd := sc_lopen.nd
    obtain ⟨a, xs, rfl, ea, oa⟩ := od_tup ho
    have exs := od_nums oa
    subst exs
    refine ⟨_, pss_one (ps_ret (pe_cmpR op_eq (pe_ix ix_tup (pv 0) (pe_op op_mod (pe_callTy call_int1 (by rfl) T.int PyProof.Rows.boot_int (pa_cons (pv 1) pa_nil)) (pe_callB call_len_seq (by rfl) T.len PySem.boot_len (pa_cons (pv 0) pa_nil))) (fun _ _ => rfl)) pe_int (nomark _))), ?_⟩
    have hb := Int.emod_nonneg t (b := ((hs.length : Nat) : Int)) (by omega)
    have hc := Int.emod_lt_of_pos t (b := ((hs.length : Nat) : Int)) (by omega)
    have hj : (t % ((hs.length : Nat) : Int)).toNat < hs.length := by omega
    have ex : atI (hs.map V.int) (t % (((hs.map V.int).length : Nat) : Int)) = some (V.int hs[(t % ((hs.length : Nat) : Int)).toNat]) := by
      rw [List.length_map]
      obtain ⟨j, ej⟩ : ∃ j : Nat, t % ((hs.length : Nat) : Int) = (j : Int) := ⟨(t % ((hs.length : Nat) : Int)).toNat, by omega⟩
      have hj2 : j < hs.length := by omega
      refine (congrArg (atI (hs.map V.int)) ej).trans ((atI_nat (v := V.int hs[j]) ?_).trans ?_)
      · rw [List.getElem?_map, List.getElem?_eq_getElem hj2]
        rfl
      · congr 2
        congr 1
        omega
    refine ⟨_, rfl, _, rfl, .inl ⟨_, rfl, _, rfl, a, _, rfl, .inr (SqT.of ea), _, _, rfl, rfl, by rw [List.length_map]; omega, a, _, _, _, rfl, rfl, SqT.of ea, ex, rfl, ?_⟩⟩
    have e : decide (V.int hs[(t % ((hs.length : Nat) : Int)).toNat] = V.int 1) = openI hs t := by
      unfold openI
      rw [List.getElem?_eq_getElem hj, Bool.eq_iff_iff]
      simp
    rw [e]
    exact k
theorem sc_lwat : FnScope ["_law_pairs", "_law_clock", "_law_row", "_law_at", "_law_time", "_law_pair", "_law_other_here"] ["_law_pairs", "_law_clock", "_law_row"] (defScope s_l_wrong_at) := ⟨rfl, rfl, rfl, by decide +kernel, rfl, by decide +kernel, by decide +kernel⟩
theorem ok_lwat (T : D K mg) : FnOk P w K mg base CX0 2 T.f_l_wrong_at T.d_l_wrong_at ["_law_pairs", "_law_clock", "_law_row"] spWrongAt := by
  refine T.U_l_wrong_at.ok sc_lwat (fun vs H Q E h => ?_) (fun cdv A outer s H vs Q E hr h => ?_)
  · obtain ⟨lv, hv, av, ps, hs, ns, rfl, _⟩ := h
    rfl
  · obtain ⟨lv, hv, av, ps, hs, ns, rfl, hL, hp, hH, h0, hA, hs', hn, k⟩ := h
    have nd := sc_lwat.nd
    have mz : 5000 ≤ sizeLine := by decide
    refine ⟨_, pss_cons (ps_for PassesOwn.never rfl (pi_enumT (by rfl) T.enumerate (pa_cons (pv 2) pa_nil)) (pg_tup rfl (pgs_cons (pg_name (i := 3) nd rfl (.inl rfl)) (pgs_cons (pg_name (i := 4) nd rfl (.inr rfl)) pgs_nil)))
        (pss_cons (ps_if (pt_not (pt_val (pe_call (ok_lopen T) hr rfl T.g_l_open T.U_l_open.kp T.b_l_open .nil pass0 (pa_cons (pv 1) (pa_cons (pv 4) pa_nil)))))
          (pss_one (ps_ret (pv 3)))
          (pss_nil))
        (pss_one (ps_for PassesOwn.never rfl (pi_tup (pv 0)) (pg_name (i := 5) nd rfl (.inr rfl))
          (pss_one (ps_if (pt_cmpR op_gt (pe_callB call_len_seq (by rfl) T.len PySem.boot_len (pa_cons (pe_lc (own := [("_law_other_here", 6)]) (g := gName 6) rfl nd (pi_tup (pe_slice sl_tupA (pv 2) po_none (po_some (pe_op op_add (pv 3) pe_int)))) (blkOk_by (N := ["_law_pairs", "_law_clock", "_law_row", "_law_at", "_law_time", "_law_pair", "_law_other_here"]) (sc := defScope s_l_wrong_at) (by decide +kernel)) (fun _ _ _ _ _ => pg_name (i := 6) nd rfl (.inl rfl)) (fun _ _ _ _ _ => (pts_one (pt_cmpR op_gt (pv 6) (pe_op op_sub (pv 4) (pe_ix ix_tupB (pv 5) pe_int (fun _ _ => rfl))) (nomark _)))) (fun _ _ _ _ _ => pv 6)) pa_nil)) (pe_ix ix_tup (pv 5) pe_int (fun _ _ => rfl)) (nomark _))
            (pss_one (ps_ret (pv 3)))
            (pss_nil)))))))
      (pss_one (ps_ret pe_non)), ?_⟩
    obtain ⟨a, rfl, ea⟩ := od_I hA
    obtain ⟨la, ls, rfl, el, ol⟩ := od_tup hL
    have lls : ls.length = ps.length := by rw [ol.len, List.length_map, List.length_map]
    refine ⟨_, rfl, a, _, rfl, SqT.of ea, for_it (walk_tp (K := K) (a := a) (xs := ns.map V.int)) (fun i σ H2 => Same H H2 ∧ (∀ j, j < i → politeAt ps hs ns j = true) ∧ ∃ (v3 v4 v5 v6 : Option V), σ = [some (.ref la), some hv, some (.ref a), v3, v4, v5, v6]) ⟨.refl _, fun _ h => absurd h (Nat.not_lt_zero _), none, none, none, none, rfl⟩ (fun i σ H2 _ q => SqT.of (q.1 _ _ ea)) ?_ ?_⟩
    · rintro i x σ H2 H3 hi ⟨s2, hpo, v3, v4, v5, v6, rfl⟩ ⟨Tt, y, rfl, hTn, rfl, hy⟩
      rw [List.length_map] at hi
      rw [List.getElem?_map, List.getElem?_eq_getElem hi] at hy
      cases hy
      have s3 := s2.trans (same_upd (o := HO.tup [V.int (i : Nat), V.int ns[i]]) hTn)
      refine ⟨_, _, rfl, SqT.of upd_same, rfl, _, _, rfl, _, _, rfl, rfl, ?_⟩
      dsimp only
      generalize upd H2 Tt (.tup [V.int (i : Nat), V.int ns[i]]) = H3 at *
      have eg : ns.getD i 0 = ns[i] := by rw [List.getD_eq_getElem?_getD, List.getElem?_eq_getElem hi]; rfl
      have ep : politeAt ps hs ns i = (openI hs ns[i] && ps.all (apI (ns.take i) ns[i])) := by unfold politeAt; rw [eg]
      refine ⟨_, rfl, _, rfl, hv, hs, ns[i], rfl, hH.same s3, h0, _, rfl, ?_⟩
      cases ho : openI hs ns[i] with
      | false =>
        have q := k H3 s3
        rw [first_at hi hpo (by rw [ep, ho]; rfl)] at q
        exact iteT ⟨_, rfl, q⟩
      | true =>
        refine iteF (next_of ?_)
        dsimp only
        refine ⟨_, rfl, la, rfl, ⟨_, SqT.of (s3 _ _ el)⟩, for_tup (K := K) (a := la) (xs := ls) (fun m σ H5 => Same H3 H5 ∧ (∀ mm (hm : mm < ps.length), mm < m → apI (ns.take i) ns[i] ps[mm] = true) ∧ ∃ (v5 v6 : Option V), σ = [some (.ref la), some hv, some (.ref a), some (.int (i : Nat)), some (.int ns[i]), v5, v6]) ⟨.refl _, fun _ _ h => absurd h (Nat.not_lt_zero _), _, _, rfl⟩ (fun m σ H5 _ q => SqT.of (q.1 _ _ (s3 _ _ el))) ?_ ?_⟩
        · rintro m x σ H5 hx ⟨s5, hm, v5, v6, rfl⟩
          obtain ⟨p, b, hpm, rfl, eb⟩ := pair_at ol hx
          obtain ⟨hmp, hpe⟩ := List.getElem?_eq_some_iff.mp hpm
          have hpp := hp p (List.mem_of_getElem? hpm)
          have s05 := s3.trans s5
          refine ifop ?_
          refine ⟨_, rfl, _, rfl, _, _, rfl, rfl, _, rfl, sl_upto (i := i + 1) ⟨a, rfl, s05 _ _ ea⟩ fun z H6 s6 ⟨c, ec, oc⟩ => ?_⟩
          subst ec
          have s06 := s05.trans s6
          refine ⟨c, rfl, ⟨_, SqT.of oc⟩, fun D hD => lc_tup (K := K) (a := c) (xs := (ns.take (i + 1)).map V.int) (fun j Hx => Same H6 Hx ∧ Hx D = some (.lst ((((ns.take (i + 1)).take j).filter (fun x => decide (ns[i] - p.2 < x))).map V.int))) ⟨same_upd hD, upd_same⟩ (fun j Hx _ q => SqT.of (q.1 _ _ oc)) ?_ ?_⟩
          · rintro j x Hx hx ⟨sx, ex⟩
            rw [List.getElem?_map] at hx
            obtain ⟨n, hn', rfl⟩ := Option.map_eq_some_iff.mp hx
            refine ⟨rfl, ?_⟩
            have et : (ns.take (i + 1)).take (j + 1) = (ns.take (i + 1)).take j ++ [n] := by rw [List.take_add_one, hn']; rfl
            refine ⟨_, rfl, _, rfl, _, rfl, b, _, _, _, rfl, rfl, SqT.of (sx _ _ (s06 _ _ eb)), rfl, _, _, rfl, rfl, _, _, rfl, rfl, _, rfl, ite2 (fun h => ?_) (fun h => ?_)⟩
            · refine ⟨_, rfl, _, ex, ?_, same_into hD sx, ?_⟩
              · rw [List.length_map]
                have := List.length_filter_le (fun x => decide (ns[i] - p.2 < x)) ((ns.take (i + 1)).take j)
                rw [List.length_take, List.length_take] at this
                omega
              · rw [upd_same, et, List.filter_append, List.map_append, List.filter_cons_of_pos (by exact h)]
                rfl
            · refine ⟨sx, ?_⟩
              rw [ex, et, List.filter_append, List.filter_cons_of_neg (by exact h), List.filter_nil, List.append_nil]
          · rintro Hx ⟨sx, ex⟩
            rw [List.length_map, List.take_length] at ex
            have s0x := s06.trans sx
            have ec : (((((ns.take (i + 1)).filter (fun x => decide (ns[i] - p.2 < x))).map V.int).length : Nat) : Int) = ((above (ns[i] - p.2) (ns.take i) + 1 : Nat) : Int) := by
              rw [List.length_map, ← above_len, above_take hi hpp.2.1]
            have eap := ap_count (srt_take hs' i) (t := ns[i]) (q := p) hpp.1
            refine ⟨D, _, rfl, .inl (SqL.of ex), _, rfl, b, _, _, _, rfl, rfl, SqT.of (s0x _ _ eb), rfl, _, _, rfl, rfl, _, rfl, ite2 (fun h => ?_) (fun h => ?_)⟩
            · have h := of_decide_eq_true h
              have hbad : apI (ns.take i) ns[i] p = false := by
                rw [eap]
                exact decide_eq_false (by omega)
              have q := k Hx s0x
              rw [first_at hi hpo (by
                rw [ep, ho, Bool.true_and, Bool.eq_false_iff]
                intro z
                have := List.all_eq_true.mp z p (List.mem_of_getElem? hpm)
                rw [hbad] at this
                cases this)] at q
              exact ⟨_, rfl, q⟩
            · have h : ¬ p.1 < ((above (ns[i] - p.2) (ns.take i) + 1 : Nat) : Int) := fun q => h (decide_eq_true (by rw [ec]; exact q))
              refine ⟨s5.trans (s6.trans sx), fun mm hmm hml => ?_, _, _, rfl⟩
              by_cases zz : mm = m
              · subst zz
                rw [hpe, eap]
                exact decide_eq_true (by omega)
              · exact hm mm hmm (by omega)
        · rintro σ H5 ⟨s5, hm, v5, v6, rfl⟩
          refine ⟨s3.trans s5, fun j hj => ?_, _, _, _, _, rfl⟩
          by_cases zz : j = i
          · subst zz
            rw [ep, ho, Bool.true_and]
            refine List.all_eq_true.mpr fun q hq => ?_
            obtain ⟨mm, hmm, rfl⟩ := List.getElem_of_mem hq
            exact hm mm hmm (by rw [lls]; exact hmm)
          · exact hpo j (by omega)
    · rintro σ H2 ⟨s2, hpo, v3, v4, v5, v6, rfl⟩
      rw [List.length_map] at hpo
      have q := k H2 s2
      rw [first_none hpo] at q
      exact q
end
end KP

set_option Elab.async false
set_option maxRecDepth 100000
set_option maxHeartbeats 4000000
set_option linter.all false
/-! Ours: the first wrong ask by a dict of counts. -/
namespace KP
open PySem PySem.Spec PyProof.Rows L2 Gr GxR
theorem above_step (c : Int) : ∀ l : List Int, above (c - 1) l = above c l + l.count c
  | [] => rfl
  | x :: l => by
    have ih := above_step c l
    unfold above at ih ⊢
    rw [List.countP_cons, List.countP_cons, List.count_cons, ih]
    by_cases h1 : c < x
    · have h2 : ¬ x = c := by omega
      simp only [decide_eq_true h1, decide_eq_true (show c - 1 < x by omega), beq_iff_eq, h2, if_true, if_false]
      omega
    · by_cases h2 : x = c
      · subst h2
        simp only [decide_eq_false h1, decide_eq_true (show x - 1 < x by omega), beq_self_eq_true, if_true, Bool.false_eq_true, if_false]
        omega
      · simp only [decide_eq_false h1, decide_eq_false (show ¬ c - 1 < x by omega), beq_iff_eq, h2, Bool.false_eq_true, if_false]
        omega
/-- the counts of the last w moments together -/
theorem sum_counts {l : List Int} {t : Int} (h : ∀ x ∈ l, x ≤ t) : ∀ w : Nat, ((List.range w).map fun b : Nat => ((l.count (t - (b : Int)) : Nat) : Int)).sum = ((above (t - (w : Int)) l : Nat) : Int)
  | 0 => by
    rw [show t - ((0 : Nat) : Int) = t by omega, above_none h]
    rfl
  | w + 1 => by
    rw [List.range_succ, List.map_append, List.sum_append, sum_counts h w]
    have e := above_step (t - (w : Int)) l
    rw [show t - ((w + 1 : Nat) : Int) = t - (w : Int) - 1 by omega, e]
    show _ + ((((l.count (t - (w : Int)) : Nat) : Int)) + 0) = _
    omega
/-- the dict holds the counts of l -/
def Cnt (kvs : List (Key × V)) (l : List Int) : Prop := (∀ x : Int, (valV kvs (.inl x)).getD (.int 0) = .int (l.count x : Nat)) ∧ kvs.length ≤ l.length
theorem cnt_put {kvs : List (Key × V)} {l : List Int} {x : Int} (h : Cnt kvs l) : Cnt (putK kvs (.inl x) (.int ((l.count x : Nat) + 1))) (l ++ [x]) := by
  refine ⟨fun y => ?_, ?_⟩
  · rw [valV_put, List.count_append]
    by_cases e : y = x
    · subst e
      rw [if_pos rfl]
      show V.int _ = _
      rw [List.count_singleton_self]
      rfl
    · rw [if_neg (fun q => e (Sum.inl.inj q)), h.1 y]
      have : List.count y [x] = 0 := List.count_eq_zero.mpr (fun q => e (List.mem_singleton.mp q))
      rw [this]
      rfl
  · have := length_putK kvs (.inl x) (.int ((l.count x : Nat) + 1))
    have := h.2
    rw [List.length_append]
    show _ ≤ _ + 1
    omega
theorem open_at {hs : List Int} (h0 : 0 < hs.length) (t : Int) : ∃ x : Int, atI (hs.map V.int) (t % (((hs.map V.int).length : Nat) : Int)) = some (V.int x) ∧ decide (V.int x = V.int 1) = openI hs t := by
  have hb := Int.emod_nonneg t (b := ((hs.length : Nat) : Int)) (by omega)
  have hc := Int.emod_lt_of_pos t (b := ((hs.length : Nat) : Int)) (by omega)
  have hj : (t % ((hs.length : Nat) : Int)).toNat < hs.length := by omega
  refine ⟨hs[(t % ((hs.length : Nat) : Int)).toNat], ?_, ?_⟩
  · rw [List.length_map]
    obtain ⟨j, ej⟩ : ∃ j : Nat, t % ((hs.length : Nat) : Int) = (j : Int) := ⟨(t % ((hs.length : Nat) : Int)).toNat, by omega⟩
    have hj2 : j < hs.length := by omega
    refine (congrArg (atI (hs.map V.int)) ej).trans ((atI_nat (v := V.int hs[j]) ?_).trans ?_)
    · rw [List.getElem?_map, List.getElem?_eq_getElem hj2]
      rfl
    · congr 2
      congr 1
      omega
  · unfold openI
    rw [List.getElem?_eq_getElem hj, Bool.eq_iff_iff]
    simp
section
variable {P : Program} {w : World} {K : PySem.W.Frag} {mg : Str → Option Value} {base : Heap}
end
end KP

set_option Elab.async false
set_option maxRecDepth 100000
set_option maxHeartbeats 4000000
set_option linter.all false
/-! Ours: the soonest ask, one. -/
namespace KP
open PySem PySem.Spec PyProof.Rows L2 Gr GxR
theorem open_soon {hs : List Int} {j : Nat} (hj : j < hs.length) (h1 : hs[j] = 1) (t : Int) : ∃ s : Nat, s < hs.length ∧ openI hs (t + s) = true := by
  have h0 : 0 < hs.length := by omega
  refine ⟨((j : Int) - t).emod hs.length |>.toNat, ?_, ?_⟩
  · have := Int.emod_nonneg ((j : Int) - t) (b := ((hs.length : Nat) : Int)) (by omega)
    have := Int.emod_lt_of_pos ((j : Int) - t) (b := ((hs.length : Nat) : Int)) (by omega)
    show (((j : Int) - t) % ((hs.length : Nat) : Int)).toNat < _
    omega
  · have a := Int.emod_nonneg ((j : Int) - t) (b := ((hs.length : Nat) : Int)) (by omega)
    show openI hs (t + (((((j : Int) - t) % ((hs.length : Nat) : Int)).toNat : Nat) : Int)) = true
    rw [Int.toNat_of_nonneg a]
    unfold openI
    have e : (t + ((j : Int) - t) % ((hs.length : Nat) : Int)) % ((hs.length : Nat) : Int) = (j : Int) := by
      rw [Int.add_emod_emod, show t + ((j : Int) - t) = (j : Int) by omega]
      exact Int.emod_eq_of_lt (by omega) (by omega)
    rw [e, Int.toNat_natCast, List.getElem?_eq_getElem hj, h1]
    rfl
def cutI (ns : List Int) (lo hi : Option Int) : List Int := (ns.drop (HT.sIx ns.length 0 lo)).take (HT.sIx ns.length ns.length hi - HT.sIx ns.length 0 lo)
theorem cut_I (ns : List Int) (lo hi : Option Int) : cutV (ns.map V.int) lo hi = (cutI ns lo hi).map V.int := by
  unfold cutV cutI
  rw [List.length_map, List.map_take, List.map_drop]
theorem last_in {ns : List Int} {x : Int} (h : atI ns (-1) = some x) : x ∈ cutI ns (some (-1)) none := by
  have hl : ns ≠ [] := fun e => by rw [e] at h; cases h
  have hp : 0 < ns.length := List.length_pos_iff.mpr hl
  unfold atI ixN at h
  rw [if_neg (by omega), if_pos (by omega)] at h
  have h : ns[(-1 + ((ns.length : Nat) : Int)).toNat]? = some x := h
  have e : (-1 + ((ns.length : Nat) : Int)).toNat = ns.length - 1 := by omega
  rw [e] at h
  unfold cutI
  have es : HT.sIx ns.length 0 (some (-1)) = ns.length - 1 := by
    show (if (-1 : Int) < 0 then ((-1 : Int) + ((ns.length : Nat) : Int)).toNat else min (-1 : Int).toNat ns.length) = _
    rw [if_pos (by decide)]
    exact e
  rw [es, HT.sIx_none]
  obtain ⟨hi, hx⟩ := List.getElem?_eq_some_iff.mp h
  rw [List.drop_eq_getElem_cons hi, hx, show ns.length - (ns.length - 1) = 1 by omega]
  exact List.mem_cons_self
theorem atI_back {ns : List Int} {k x : Int} (h1 : 1 ≤ k) (h2 : k ≤ ((ns.length : Nat) : Int)) (h : atI ns (-k) = some x) : atI ns (((ns.length : Nat) : Int) - k) = some x := by
  unfold atI ixN at h ⊢
  rw [if_neg (by omega), if_pos (by omega)] at h
  rw [if_pos (by omega), if_pos (by omega)]
  have e : (-k + ((ns.length : Nat) : Int)).toNat = (((ns.length : Nat) : Int) - k).toNat := by omega
  rw [e] at h
  exact h
theorem ap_mono {ns : List Int} {t u : Int} {q : Int × Int} (h : apI ns t q = true) (l : t ≤ u) : apI ns u q = true := by
  unfold apI at h ⊢
  rw [Bool.or_eq_true] at h ⊢
  rcases h with h | h
  · exact .inl h
  · refine .inr ?_
    cases e : atI ns (-q.1) with
    | none => rw [e] at h; cases h
    | some x =>
      rw [e] at h
      have h := of_decide_eq_true h
      exact decide_eq_true (by omega)
end KP

set_option Elab.async false
set_option maxRecDepth 100000
set_option linter.all false
/-! Ours: the next ask, as the least one; rows of them. -/
namespace KP
open PySem PySem.Spec PyProof.Rows L2 Gr GxR
/-- t is behind the last of rs, from st on -/
def Past (rs : List Int) (st t : Int) : Prop := st ≤ t ∧ ∀ x, atI rs (-1) = some x → x ≤ t
structure IsNxt (ps : List (Int × Int)) (hs rs : List Int) (st t : Int) : Prop where
  past : Past rs st t
  opn : openI hs t = true
  all : ps.all (apI rs t) = true
  least : ∀ u, Past rs st u → openI hs u = true → ps.all (apI rs u) = true → t ≤ u
theorem IsNxt.one {ps : List (Int × Int)} {hs rs : List Int} {st t u : Int} (a : IsNxt ps hs rs st t) (b : IsNxt ps hs rs st u) : t = u := by
  have := a.least u b.past b.opn b.all
  have := b.least t a.past a.opn a.all
  omega
/-- each of ts is the next one behind ns and those ahead of it -/
def SRow (ps : List (Int × Int)) (hs ns : List Int) (st : Int) (ts : List Int) : Prop := ∀ (i : Nat) (h : i < ts.length), IsNxt ps hs (ns ++ ts.take i) st ts[i]
theorem SRow.nil {ps : List (Int × Int)} {hs ns : List Int} {st : Int} : SRow ps hs ns st [] := fun i h => absurd h (Nat.not_lt_zero i)
theorem SRow.snoc {ps : List (Int × Int)} {hs ns ts : List Int} {st t : Int} (h : SRow ps hs ns st ts) (n : IsNxt ps hs (ns ++ ts) st t) : SRow ps hs ns st (ts ++ [t]) := fun i hi => by
  rw [List.length_append] at hi
  have hi : i < ts.length + 1 := hi
  by_cases z : i < ts.length
  · rw [List.getElem_append_left z, List.take_append_of_le_length (by omega)]
    exact h i z
  · have e : i = ts.length := by omega
    subst e
    rw [List.getElem_append_right (Nat.le_refl _), List.take_left]
    simpa using n
theorem SRow.one {ps : List (Int × Int)} {hs ns ts us : List Int} {st : Int} (a : SRow ps hs ns st ts) (b : SRow ps hs ns st us) : ∀ i, i ≤ ts.length → i ≤ us.length → ts.take i = us.take i
  | 0, _, _ => by rw [List.take_zero, List.take_zero]
  | i + 1, h1, h2 => by
    have e := SRow.one a b i (by omega) (by omega)
    have n1 := a i (by omega)
    have n2 := b i (by omega)
    rw [e] at n1
    rw [List.take_add_one, List.take_add_one, List.getElem?_eq_getElem (by omega), List.getElem?_eq_getElem (by omega), e, n1.one n2]
theorem SRow.same {ps : List (Int × Int)} {hs ns ts us : List Int} {st : Int} (a : SRow ps hs ns st ts) (b : SRow ps hs ns st us) (h : ts.length = us.length) : ts = us := by
  have := SRow.one a b ts.length (Nat.le_refl _) (by omega)
  rw [List.take_of_length_le (Nat.le_refl _), List.take_of_length_le (by omega)] at this
  exact this
theorem SRow.take {ps : List (Int × Int)} {hs ns ts : List Int} {st : Int} (a : SRow ps hs ns st ts) (k : Nat) : SRow ps hs ns st (ts.take k) := fun i hi => by
  rw [List.length_take] at hi
  have := a i (by omega)
  rw [List.getElem_take, List.take_take, Nat.min_eq_left (by omega)]
  exact this
theorem SRow.drop {ps : List (Int × Int)} {hs ns ts : List Int} {st : Int} (a : SRow ps hs ns st ts) (k : Nat) : SRow ps hs (ns ++ ts.take k) st (ts.drop k) := fun i hi => by
  rw [List.length_drop] at hi
  have := a (k + i) (by omega)
  rw [List.getElem_drop, List.append_assoc, ← List.take_add]
  exact this
theorem last_at {ns : List Int} (h : 0 < ns.length) : atI ns (-1) = some (ns[ns.length - 1]'(by omega)) := by
  unfold atI ixN
  rw [if_neg (by omega), if_pos (by omega)]
  show ns[(-1 + ((ns.length : Nat) : Int)).toNat]? = _
  rw [show (-1 + ((ns.length : Nat) : Int)).toNat = ns.length - 1 by omega]
  exact List.getElem?_eq_getElem (by omega)
theorem last_some {ns : List Int} {x : Int} (h : atI ns (-1) = some x) : ∃ h0 : 0 < ns.length, x = ns[ns.length - 1]'(by omega) := by
  cases ns with
  | nil => cases h
  | cons n l =>
    rw [last_at (by simp)] at h
    exact ⟨by simp, (Option.some.inj h).symm⟩
theorem past_srt {ns : List Int} (hs : Srt ns) {st t : Int} (h : Past ns st t) : ∀ x ∈ ns, x ≤ t := fun x hx => by
  obtain ⟨i, hi, rfl⟩ := List.getElem_of_mem hx
  have := h.2 _ (last_at (by omega))
  have := hs i (ns.length - 1) hi (by omega) (by omega)
  omega
theorem back_at {ns : List Int} {k : Int} (h1 : 1 ≤ k) (h2 : k ≤ ((ns.length : Nat) : Int)) : atI ns (-k) = some (ns[ns.length - k.toNat]'(by omega)) := by
  unfold atI ixN
  rw [if_neg (by omega), if_pos (by omega)]
  show ns[(-k + ((ns.length : Nat) : Int)).toNat]? = _
  rw [show (-k + ((ns.length : Nat) : Int)).toNat = ns.length - k.toNat by omega]
  exact List.getElem?_eq_getElem (by omega)
/-- of two rows of one length, one sooner than the other, ask by ask: what the later one lets, the sooner one lets -/
theorem ap_sooner {rs us : List Int} {t : Int} {q : Int × Int} (h1 : 1 ≤ q.1) (hl : rs.length = us.length) (hle : ∀ (i : Nat) (h : i < rs.length), rs[i] ≤ us[i]'(hl ▸ h)) (h : apI us t q = true) : apI rs t q = true := by
  unfold apI at h ⊢
  rw [hl]
  rw [Bool.or_eq_true] at h ⊢
  rcases h with h | h
  · exact .inl h
  · by_cases z : ((us.length : Nat) : Int) < q.1
    · exact .inl (decide_eq_true z)
    · rw [back_at h1 (by omega)] at h
      rw [back_at h1 (by omega)]
      have h := of_decide_eq_true h
      have := hle (rs.length - q.1.toNat) (by omega)
      refine .inr (decide_eq_true ?_)
      have e : us[rs.length - q.1.toNat]'(by omega) = us[us.length - q.1.toNat]'(by omega) := by
        congr 1
        omega
      omega
/-- a next ask comes within some moments -/
theorem IsNxt.near {ps : List (Int × Int)} {hs rs : List Int} {st t M : Int} (n : IsNxt ps hs rs st t) (sr : Srt rs) (hp : ∀ p ∈ ps, 1 ≤ p.1 ∧ 1 ≤ p.2 ∧ p.2 ≤ 12) (h12 : hs.length ≤ 12) (ho : ∃ j : Nat, ∃ h : j < hs.length, hs[j] = 1) (h1 : st ≤ M) (h2 : ∀ x ∈ rs, x ≤ M) : t ≤ M + 24 := by
  obtain ⟨j, hj, e⟩ := ho
  obtain ⟨s, hs1, hs2⟩ := open_soon hj e (M + 12)
  have := n.least (M + 12 + (s : Int)) ⟨by omega, fun x hx => by
    obtain ⟨h0, rfl⟩ := last_some hx
    have := h2 _ (List.getElem_mem (l := rs) (n := rs.length - 1) (by omega))
    omega⟩ hs2 (List.all_eq_true.mpr fun q hq => by
    have hq := hp q hq
    unfold apI
    by_cases z : ((rs.length : Nat) : Int) < q.1
    · rw [decide_eq_true z, Bool.true_or]
    · rw [back_at hq.1 (by omega)]
      have := h2 _ (List.getElem_mem (l := rs) (n := rs.length - q.1.toNat) (by omega))
      rw [Bool.or_eq_true]
      exact .inr (decide_eq_true (by omega)))
  omega
theorem snoc_srt {ns : List Int} (h : Srt ns) {st t : Int} (p : Past ns st t) : Srt (ns ++ [t]) := fun i j hi hj hij => by
  rw [List.length_append] at hi hj
  have hj : j < ns.length + 1 := hj
  by_cases z : j < ns.length
  · rw [List.getElem_append_left (by omega), List.getElem_append_left z]
    exact h i j (by omega) z hij
  · have e : j = ns.length := by omega
    subst e
    rw [List.getElem_append_right (Nat.le_refl _)]
    simp only [Nat.sub_self, List.getElem_cons_zero]
    by_cases z2 : i < ns.length
    · rw [List.getElem_append_left z2]
      exact past_srt h p _ (List.getElem_mem z2)
    · rw [List.getElem_append_right (by omega)]
      simp only [show i - ns.length = 0 by omega, List.getElem_cons_zero]
      exact Int.le_refl _
end KP

set_option Elab.async false
set_option maxRecDepth 100000
set_option maxHeartbeats 4000000
set_option linter.all false
/-! Ours: _law_soonest, any number of asks. -/
namespace KP
open PySem PySem.Spec PyProof.Rows L2 Gr GxR
theorem cut_last {ns : List Int} (h : 0 < ns.length) : cutI ns (some (-1)) none = [ns[ns.length - 1]'(by omega)] := by
  unfold cutI
  have e : HT.sIx ns.length 0 (some (-1)) = ns.length - 1 := by
    unfold HT.sIx
    show (if (-1 : Int) < 0 then ((-1 : Int) + ((ns.length : Nat) : Int)).toNat else _) = _
    rw [if_pos (by decide)]
    omega
  rw [e, HT.sIx_none, show ns.length - (ns.length - 1) = 1 by omega]
  rw [List.drop_eq_getElem_cons (by omega)]
  rfl
theorem sql_same {K : PySem.W.Frag} {H H' : Hp} {a : Addr} {xs : List V} (s : Same H H') (h : SqL K H a xs) : SqL K H' a xs := by
  rcases h with (h | ⟨o, h⟩) | h
  · exact .inl (.inl (s _ _ h))
  · exact .inl (.inr ⟨o, s _ _ h⟩)
  · exact .inr h
theorem sqt_same {K : PySem.W.Frag} {H H' : Hp} {a : Addr} {xs : List V} (s : Same H H') (h : SqT K H a xs) : SqT K H' a xs := by
  rcases h with (h | ⟨o, h⟩) | h
  · exact .inl (.inl (s _ _ h))
  · exact .inl (.inr ⟨o, s _ _ h⟩)
  · exact .inr h
def spSoon (K : PySem.W.Frag) : Sp := fun vs H Q _ => ∃ (lv hv : V) (r : Addr) (n st : Int) (ps : List (Int × Int)) (hs ns : List Int), vs = [lv, hv, .ref r, .int n, .int st] ∧ Od H lv (.tuple ((ps.map inD).map tw)) ∧ (∀ p ∈ ps, 1 ≤ p.1 ∧ 1 ≤ p.2 ∧ p.2 ≤ 1000) ∧ Od H hv (.tuple (hs.map PyData.int)) ∧ hs.length ≤ 12 ∧ (∃ j : Nat, ∃ h : j < hs.length, hs[j] = 1) ∧ (SqL K H r (ns.map V.int) ∨ SqT K H r (ns.map V.int)) ∧ ns.length ≤ 1000 ∧ 0 ≤ n ∧ n ≤ 1000 ∧
  ∀ z ts H', Same H H' → H z = none → H' z = some (.lst (ts.map V.int)) → ts.length = n.toNat → SRow ps hs ns st ts → Q (.ref z) H'
section
variable {P : Program} {w : World} {K : PySem.W.Frag} {mg : Str → Option Value} {base : Heap}
theorem sc_soon : FnScope ["_law_pairs", "_law_clock", "_law_row", "_law_number", "_law_start", "_law_line", "_law_turn", "_law_time", "_law_pair", "_law_step"] ["_law_pairs", "_law_clock", "_law_row", "_law_number", "_law_start"] (defScope s_l_soonest) := ⟨rfl, rfl, rfl, by decide +kernel, rfl, by decide +kernel, by decide +kernel⟩
theorem ok_soon (T : D K mg) : FnOk P w K mg base CX0 2 T.f_l_soonest T.d_l_soonest ["_law_pairs", "_law_clock", "_law_row", "_law_number", "_law_start"] (spSoon K) := by
  refine T.U_l_soonest.ok sc_soon (fun vs H Q E h => ?_) (fun cdv A outer s H vs Q E hr h => ?_)
  · obtain ⟨lv, hv, r, n, st, ps, hs, ns, rfl, _⟩ := h
    rfl
  · obtain ⟨lv, hv, r, nn, st, ps, hs, ns, rfl, hL, hp, hH, h12, ⟨j1, hj1, hj2⟩, er, hn, n0, n1, k⟩ := h
    have nd := sc_soon.nd
    have mz : 5000 ≤ sizeLine := by decide
    refine ⟨_, pss_cons (ps_set (i := 5) nd rfl (.inl rfl) (pe_callTy call_list_of (by rfl) T.list (by decide +kernel) (pa_cons (pv 2) pa_nil)))
      (pss_cons (ps_for PassesOwn.never rfl (pi_range1 rfl T.range (pa_cons (pv 3) pa_nil)) (pg_name (i := 6) nd rfl (.inl rfl))
        (pss_cons (ps_set (i := 7) nd rfl (.inl rfl) (pe_callB (cr_max rfl) (by rfl) T.max (by decide +kernel) (pa_cons (pe_op op_cat (pe_lst (pa_cons (pv 4) pa_nil)) (pe_slice sl_list (pv 5) (po_some (pe_un un_neg pe_int)) po_none)) pa_nil)))
        (pss_cons (ps_for PassesOwn.never rfl (pi_tup (pv 0)) (pg_name (i := 8) nd rfl (.inl rfl))
          (pss_one (ps_if (pt_cmpR op_ge (pe_callB call_len_seq (by rfl) T.len PySem.boot_len (pa_cons (pv 5) pa_nil)) (pe_ix ix_tup (pv 8) pe_int (fun _ _ => rfl)) (nomark _))
            (pss_one (ps_set (i := 7) nd rfl (.inl rfl) (pe_callB (call_max2 rfl) (by rfl) T.max boot_max (pa_cons (pv 7) (pa_cons (pe_op op_add (pe_ix ix_list (pv 5) (pe_op op_sub (pe_callB call_len_seq (by rfl) T.len PySem.boot_len (pa_cons (pv 5) pa_nil)) (pe_ix ix_tup (pv 8) pe_int (fun _ _ => rfl))) (fun _ _ => rfl)) (pe_ix ix_tup (pv 8) pe_int (fun _ _ => rfl))) pa_nil)))))
            (pss_nil))))
        (pss_cons (ps_for PassesOwn.never rfl (pi_range1 rfl T.range (pa_cons (pe_callB call_len_seq (by rfl) T.len PySem.boot_len (pa_cons (pv 1) pa_nil)) pa_nil)) (pg_name (i := 9) nd rfl (.inl rfl))
          (pss_one (ps_if (pt_not (pt_val (pe_call (ok_lopen T) hr rfl T.g_l_open T.U_l_open.kp T.b_l_open .nil pass0 (pa_cons (pv 1) (pa_cons (pv 7) pa_nil)))))
            (pss_one (ps_set (i := 7) nd rfl (.inl rfl) (pe_op op_add (pv 7) pe_int)))
            (pss_nil))))
        (pss_one (ps_expr (pe_bm PySem.F.plainAttrs_list PySem.F.slot_list_append PySem.F.type_list_append mt_append (pv 5) (pa_cons (pv 7) pa_nil))))))))
      (pss_one (ps_ret (pe_slice sl_list (pv 5) (po_some (pe_callB call_len_seq (by rfl) T.len PySem.boot_len (pa_cons (pv 2) pa_nil))) po_none)))), ?_⟩
    obtain ⟨ha, rfl, eh⟩ := od_I hH
    obtain ⟨la, ls, rfl, el, ol⟩ := od_tup hL
    have lls : ls.length = ps.length := by rw [ol.len, List.length_map, List.length_map]
    have er' : ∀ H2, Same H H2 → (SqL K H2 r (ns.map V.int) ∨ SqT K H2 r (ns.map V.int)) := fun H2 s2 => er.elim (fun h => .inl (sql_same s2 h)) (fun h => .inr (sqt_same s2 h))
    refine ⟨_, rfl, r, _, rfl, er, fun Ln hLn => gn ?_⟩
    have s1 := same_upd (o := HO.lst (ns.map V.int)) hLn
    have e1 : upd H Ln (.lst (ns.map V.int)) Ln = some (.lst ((ns ++ []).map V.int)) := by rw [upd_same, List.append_nil]
    generalize upd H Ln (.lst (ns.map V.int)) = H1 at *
    dsimp only
    refine ⟨_, rfl, nn, rfl, by omega, by omega, for_range (lo := 0) (n := _) (fun i σ H2 => Same H H2 ∧ ∃ (ts : List Int) (v6 v7 v8 v9 : Option V), H2 Ln = some (.lst ((ns ++ ts).map V.int)) ∧ σ = [some (.ref la), some (.ref ha), some (.ref r), some (.int nn), some (.int st), some (.ref Ln), v6, v7, v8, v9] ∧ ts.length = i ∧ SRow ps hs ns st ts) ⟨s1, [], none, none, none, none, e1, rfl, rfl, SRow.nil⟩ ?_ ?_⟩
    · rintro i σ H2 hi ⟨s2, ts, v6, v7, v8, v9, e2, rfl, lts, srow⟩
      have hi1 : i < 1000 := by omega
      have hrl : (ns ++ ts).length ≤ 2000 := by rw [List.length_append]; omega
      generalize hrs : ns ++ ts = rs at *
      refine ⟨_, rfl, by show 1 ≤ sizeLine; omega, fun c1 hc1 => ?_⟩
      have sa := same_upd (o := HO.lst [V.int st]) hc1
      refine ⟨_, rfl, 1, rfl, _, rfl, ?_⟩
      refine ⟨Ln, _, rfl, SqL.of (sa _ _ e2), fun c2 hc2 => ?_⟩
      rw [cut_I]
      have sb := same_upd (o := HO.lst ((cutI rs (some (-1)) none).map V.int)) hc2
      have lc : (cutI rs (some (-1)) none).length ≤ 2000 := by
        unfold cutI
        rw [List.length_take, List.length_drop]
        omega
      refine ⟨c1, c2, _, _, rfl, rfl, sb _ _ upd_same, upd_same, by rw [List.length_map]; show 1 + _ ≤ sizeLine; omega, fun c3 hc3 => ?_⟩
      have sc := same_upd (o := HO.lst ([V.int st] ++ (cutI rs (some (-1)) none).map V.int)) hc3
      refine ⟨c3, st :: cutI rs (some (-1)) none, rfl, SqL.of upd_same, Nat.succ_pos _, fun m hm hle => gn ?_⟩
      have mpast : Past rs st m := ⟨hle st List.mem_cons_self, fun x hx => hle x (List.mem_cons_of_mem _ (last_in hx))⟩
      have mleast : ∀ u, Past rs st u → m ≤ u := fun u hu => by
        rcases List.mem_cons.mp hm with e | e
        · rw [e]; exact hu.1
        · have h0 : 0 < rs.length := by
            cases hz : rs with
            | nil => rw [hz] at e; cases e
            | cons a l => exact Nat.succ_pos _
          rw [cut_last h0] at e
          rw [List.mem_singleton.mp e]
          exact hu.2 _ (last_at h0)
      have s3 := s2.trans (sa.trans (sb.trans sc))
      have e3 := sc _ _ (sb _ _ (sa _ _ e2))
      have w3 : Same H2 (upd (upd (upd H2 c1 (.lst [V.int st])) c2 (.lst ((cutI rs (some (-1)) none).map V.int))) c3 (.lst ([V.int st] ++ (cutI rs (some (-1)) none).map V.int))) := sa.trans (sb.trans sc)
      generalize upd (upd (upd H2 c1 (.lst [V.int st])) c2 (.lst ((cutI rs (some (-1)) none).map V.int))) c3 (.lst ([V.int st] ++ (cutI rs (some (-1)) none).map V.int)) = H3 at *
      clear sa sb sc hc1 hc2 hc3 e2 hm hle
      dsimp only
      refine ⟨_, rfl, la, rfl, ⟨_, SqT.of (s3 _ _ el)⟩, for_tup (K := K) (a := la) (xs := ls) (fun mm σ H5 => H5 = H3 ∧ ∃ (t : Int) (v8 : Option V), m ≤ t ∧ (∀ j (hj : j < ps.length), j < mm → apI rs t ps[j] = true) ∧ (∀ u, Past rs st u → ps.all (apI rs u) = true → t ≤ u) ∧ σ = [some (.ref la), some (.ref ha), some (.ref r), some (.int nn), some (.int st), some (.ref Ln), some (.int (0 + (i : Int))), some (.int t), v8, v9]) ⟨rfl, m, v8, Int.le_refl _, fun _ _ h => absurd h (Nat.not_lt_zero _), fun u hu _ => mleast u hu, rfl⟩ (fun mm σ H5 _ q => by rw [q.1]; exact SqT.of (s3 _ _ el)) ?_ ?_⟩
      · rintro mm x σ H5 hx ⟨rfl, t, v8, mt, hm, ht, rfl⟩
        obtain ⟨p, b, hpm, rfl, eb⟩ := pair_at ol hx
        obtain ⟨hmp, hpe⟩ := List.getElem?_eq_some_iff.mp hpm
        have hpp := hp p (List.mem_of_getElem? hpm)
        have eb3 := s3 _ _ eb
        refine ifop ?_
        refine ⟨_, rfl, Ln, _, rfl, .inl (SqL.of e3), _, rfl, b, _, _, _, rfl, rfl, SqT.of eb3, rfl, _, _, rfl, rfl, _, rfl, ite2 (fun h => ?_) (fun h => ?_)⟩
        · have h := of_decide_eq_true h
          rw [List.length_map] at h
          obtain ⟨x, hx⟩ := atI_some (ns := rs) hpp.1 (by omega)
          have hb := atI_back hpp.1 h hx
          have hbV := atI_mapV hb
          refine ⟨_, rfl, _, rfl, _, rfl, Ln, _, rfl, .inl (SqL.of e3), _, rfl, b, _, _, _, rfl, rfl, SqT.of eb3, rfl, _, _, rfl, rfl, Ln, _, _, V.int x, rfl, rfl, SqL.of e3, by rw [List.length_map]; exact hbV, _, rfl, b, _, _, _, rfl, rfl, SqT.of eb3, rfl, _, _, rfl, rfl, _, _, rfl, gn ?_⟩
          have hap : ∀ u, x + p.2 ≤ u → apI rs u p = true := fun u hu => by
            unfold apI
            rw [hx, Bool.or_eq_true]
            exact .inr (decide_eq_true (by omega))
          have hmx : t ≤ (if x + p.2 > t then x + p.2 else t) ∧ x + p.2 ≤ (if x + p.2 > t then x + p.2 else t) := by
            split <;> omega
          refine ⟨rfl, _, _, Int.le_trans mt hmx.1, fun j hj hjm => ?_, fun u hu ha => ?_, rfl⟩
          · by_cases z : j = mm
            · subst z
              rw [hpe]
              exact hap _ hmx.2
            · exact ap_mono (hm j hj (by omega)) hmx.1
          · have h1 := ht u hu ha
            have h2 := List.all_eq_true.mp ha p (List.mem_of_getElem? hpm)
            unfold apI at h2
            rw [hx, decide_eq_false (by omega), Bool.false_or] at h2
            have h2 := of_decide_eq_true h2
            split <;> omega
        · have h : ¬ p.1 ≤ (((rs.map V.int).length : Nat) : Int) := fun q => h (decide_eq_true q)
          rw [List.length_map] at h
          refine ⟨rfl, t, _, mt, fun j hj hjm => ?_, ht, rfl⟩
          by_cases z : j = mm
          · subst z
            rw [hpe]
            unfold apI
            rw [decide_eq_true (show ((rs.length : Nat) : Int) < p.1 by omega), Bool.true_or]
          · exact hm j hj (by omega)
      · rintro σ H5 ⟨rfl, t1, v8, mt, hm, ht, rfl⟩
        have hall : ∀ u, t1 ≤ u → ps.all (apI rs u) = true := fun u hu => List.all_eq_true.mpr fun q hq => by
          obtain ⟨j, hj, rfl⟩ := List.getElem_of_mem hq
          exact ap_mono (hm j hj (by rw [lls]; exact hj)) hu
        refine ⟨_, rfl, ha, _, rfl, .inr (SqT.of (s3 _ _ eh)), _, rfl, by omega, by rw [List.length_map]; omega, for_range (lo := 0) (n := _) (fun ss σ H6 => H6 = H5 ∧ ∃ (t : Int) (v9 : Option V), t1 ≤ t ∧ (∀ u, t1 ≤ u → openI hs u = true → t ≤ u) ∧ (openI hs t = true ∨ (t = t1 + ((ss : Nat) : Int) ∧ ∀ s', s' < ss → openI hs (t1 + ((s' : Nat) : Int)) = false)) ∧ σ = [some (.ref la), some (.ref ha), some (.ref r), some (.int nn), some (.int st), some (.ref Ln), some (.int (0 + (i : Int))), some (.int t), v8, v9]) ⟨rfl, t1, v9, Int.le_refl _, fun _ h _ => h, .inr ⟨by omega, fun _ h => absurd h (Nat.not_lt_zero _)⟩, rfl⟩ ?_ ?_⟩
        · rintro ss σ H6 hss ⟨rfl, t, v9, tt, tu, ho, rfl⟩
          refine ⟨_, rfl, _, rfl, .ref ha, hs, t, rfl, hH.same s3, by omega, _, rfl, ?_⟩
          cases h : openI hs t with
          | true => exact iteF ⟨rfl, t, _, tt, tu, .inl h, rfl⟩
          | false =>
            refine iteT ⟨_, rfl, _, _, rfl, rfl, gn ⟨rfl, t + 1, _, by omega, fun u hu hou => ?_, .inr ?_, rfl⟩⟩
            · have := tu u hu hou
              by_cases z : u = t
              · rw [z, h] at hou; cases hou
              · omega
            rcases ho with ho | ⟨et, ho⟩
            · rw [h] at ho; cases ho
            · refine ⟨by omega, fun s' hs2 => ?_⟩
              by_cases z : s' = ss
              · rw [z, ← et]; exact h
              · exact ho s' (by omega)
        · rintro σ H6 ⟨rfl, t, v9, tt, tu, ho, rfl⟩
          have hopen : openI hs t = true := by
            rcases ho with ho | ⟨_, ho⟩
            · exact ho
            · obtain ⟨s0, hs0, hs1⟩ := open_soon hj1 hj2 t1
              have := ho s0 (by
                rw [List.length_map]
                show s0 < ((hs.length : Nat) : Int).toNat
                omega)
              rw [hs1] at this
              cases this
          have hn : IsNxt ps hs rs st t := ⟨⟨Int.le_trans mpast.1 (Int.le_trans mt tt), fun x hx => Int.le_trans (mpast.2 x hx) (Int.le_trans mt tt)⟩, hopen, hall t tt, fun u hu hou ha => tu u (ht u hu ha) hou⟩
          refine ⟨_, rfl, .inl ⟨rfl, _, SqL.of e3⟩, _, rfl, Ln, _, _, rfl, rfl, e3, by rw [List.length_map]; omega, ?_⟩
          refine ⟨same_into hLn s3, ts ++ [t], _, _, _, _, ?_, rfl, by rw [List.length_append, lts]; rfl, SRow.snoc srow (hrs ▸ hn)⟩
          rw [upd_same, ← List.append_assoc, hrs, List.map_append]
          rfl
    · rintro σ H2 ⟨s2, ts, v6, v7, v8, v9, e2, rfl, lts, srow⟩
      refine ⟨_, rfl, _, rfl, r, _, rfl, er' _ s2, _, rfl, ?_⟩
      dsimp only [tNoPart]
      refine ⟨Ln, _, rfl, SqL.of e2, fun z hz => ?_⟩
      have ecut : cutV ((ns ++ ts).map V.int) (some (((ns.map V.int).length : Nat) : Int)) none = ts.map V.int := by
        rw [cutV_from, List.map_append, List.drop_left]
      rw [ecut]
      refine k z ts _ (s2.trans (same_upd hz)) ?_ upd_same lts srow
      cases e : H z with
      | none => rfl
      | some o => rw [s2 _ _ e] at hz; cases hz
end
end KP

set_option Elab.async false
set_option maxRecDepth 100000
set_option maxHeartbeats 4000000
set_option linter.all false
/-! Ours: next_open, next_ask, soonest_asks. -/
namespace KP
open PySem PySem.Spec PyProof.Rows L2 Gr GxR
theorem ix_listB {X : Cx} {s : Shared} {H : Hp} {sc : Scope} {en : Env} {fp : List Addr} : IxR (X.blk s H sc en fp) (rIxL X.K) := ix_list
theorem call_len_seqB {X : Cx} {s : Shared} {H : Hp} {sc : Scope} {en : Env} {fp : List Addr} : CallR (X.blk s H sc en fp) (.builtin "len") (fun xs H Q => ∃ p ys, xs = [V.ref p] ∧ (SqL X.K H p ys ∨ SqT X.K H p ys) ∧ Q (.int (ys.length : Nat)) H) := call_len_seq
def spNOpen : Sp := fun vs H Q _ => ∃ (hv : V) (hs : List Int) (t : Int), vs = [hv, .int t] ∧ Od H hv (.tuple (hs.map PyData.int)) ∧ (∃ j : Nat, ∃ h : j < hs.length, hs[j] = 1) ∧ ∀ u, openI hs u = true → t ≤ u → (∀ v, t ≤ v → openI hs v = true → u ≤ v) → Q (.int u) H
def spNext : Sp := fun vs H Q _ => ∃ (rv : V) (r : Addr) (st : Int) (ps : List (Int × Int)) (hs rs : List Int), vs = [rv, .ref r, .int st] ∧ Od H rv (rulesP ps hs) ∧ ps.length ≤ 4 ∧ (∀ p ∈ ps, 1 ≤ p.1) ∧ (∃ j : Nat, ∃ h : j < hs.length, hs[j] = 1) ∧ H r = some (.lst (rs.map V.int)) ∧ rs.length ≤ 4000 ∧ ∀ t H', IsNxt ps hs rs st t → Same H H' → Q (.int t) H'
section
variable {P : Program} {w : World} {K : PySem.W.Frag} {mg : Str → Option Value} {base : Heap}
theorem sc_nopen : FnScope ["hours", "moment"] ["hours", "moment"] (defScope s_next_open) := ⟨rfl, rfl, rfl, by decide +kernel, rfl, by decide +kernel, by decide +kernel⟩
theorem ok_nopen (T : D K mg) : FnOk P w K mg base CX0 2 T.f_next_open T.d_next_open ["hours", "moment"] spNOpen := by
  refine T.U_next_open.ok sc_nopen (fun vs H Q E h => ?_) (fun cdv A outer s H vs Q E hr h => ?_)
  · obtain ⟨hv, hs, t, rfl, _⟩ := h
    rfl
  · obtain ⟨hv, hs, t, rfl, hH, ⟨j, hj, e1⟩, k⟩ := h
    have nd := sc_nopen.nd
    refine ⟨_, pss_cons (ps_while PassesOwn.never (pt_not (pt_val (pe_call (ok_opens T) hr rfl T.g_opens T.U_opens.kp T.b_opens .nil pass0 (pa_cons (pv 0) (pa_cons (pv 1) pa_nil)))))
        (pss_one (ps_aug (i := 1) nd rfl (.inl rfl) pe_int ip_add)))
      (pss_one (ps_ret (pv 1))), ?_⟩
    obtain ⟨s0, h1, h2⟩ := open_soon hj e1 t
    refine ⟨fun m σ H' => H' = H ∧ ∃ u : Int, σ = [some hv, some (.int u)] ∧ t ≤ u ∧ (∀ v, t ≤ v → openI hs v = true → u ≤ v) ∧ m = (t + (s0 : Int) - u).toNat, ⟨_, rfl, t, rfl, Int.le_refl _, fun v hv _ => hv, rfl⟩, ?_⟩
    rintro m σ H' ⟨rfl, u, rfl, tu, lu, rfl⟩
    refine ⟨_, rfl, _, rfl, hv, hs, u, rfl, hH, by omega, _, rfl, ?_⟩
    cases ho : openI hs u with
    | true => exact ⟨_, rfl, k u ho tu lu⟩
    | false =>
      have hlt : u < t + (s0 : Int) := by
        have := lu _ (by omega) h2
        by_cases z : u = t + (s0 : Int)
        · rw [z, h2] at ho; cases ho
        · omega
      refine ⟨fun σ' H2 => H2 = H' ∧ ∃ v : Int, σ' = [some hv, some (.int v)] ∧ t ≤ v ∧ (∀ x, t ≤ x → openI hs x = true → v ≤ x) ∧ v = u + 1, ?_, ?_⟩
      · rintro σ' H2 ⟨rfl, v, rfl, tv, lv, rfl⟩
        exact ⟨_, by omega, rfl, u + 1, rfl, tv, lv, rfl⟩
      · refine ⟨_, rfl, _, _, rfl, rfl, rfl, u + 1, rfl, by omega, fun x hx hox => ?_, rfl⟩
        have := lu x hx hox
        by_cases z : x = u
        · rw [z, ho] at hox; cases hox
        · omega
theorem sc_next : FnScope ["rules", "asks", "since", "limits", "hours", "bounds", "most", "wide"] ["rules", "asks", "since"] (defScope s_next_ask) := ⟨rfl, rfl, rfl, by decide +kernel, rfl, by decide +kernel, by decide +kernel⟩
theorem ok_next (T : D K mg) : FnOk P w K mg base CX0 3 T.f_next_ask T.d_next_ask ["rules", "asks", "since"] spNext := by
  refine T.U_next_ask.ok sc_next (fun vs H Q E h => ?_) (fun cdv A outer s H vs Q E hr h => ?_)
  · obtain ⟨rv, r, st, ps, hs, rs, rfl, _⟩ := h
    rfl
  · obtain ⟨rv, r, st, ps, hs, rs, rfl, hR, hl4, hp, ho, er, hrl, k⟩ := h
    have nd := sc_next.nd
    have mz : 5000 ≤ sizeLine := by decide
    refine ⟨_, pss_cons (ps_asg (pv 0) (pg_tup rfl (pgs_cons (pg_name (i := 3) nd rfl (.inl rfl)) (pgs_cons (pg_name (i := 4) nd rfl (.inl rfl)) pgs_nil))))
      (pss_cons (ps_setLc (i := 5) (own := [("most", 6), ("wide", 7)]) (g := gTup _ 2 (gCons (gName 6) (gCons (gName 7) gNil))) rfl nd rfl rfl (sw_true rfl rfl rfl (by decide +kernel)) (pi_tup (pv 3)) (blkOk_by (N := ["rules", "asks", "since", "limits", "hours", "bounds", "most", "wide"]) (sc := defScope s_next_ask) (by decide +kernel)) (fun _ _ _ _ _ => pg_tup rfl (pgs_cons (pg_name (i := 6) nd rfl (.inl rfl)) (pgs_cons (pg_name (i := 7) nd rfl (.inl rfl)) pgs_nil))) (fun _ _ _ _ _ => (pts_one (pt_cmpR op_ge (pe_callB call_len_seqB (by rfl) T.len PySem.boot_len (pa_cons (pv 1) pa_nil)) (pv 6) (nomark _)))) (fun _ _ _ _ _ => pe_op op_add (pe_ix ix_listB (pv 1) (pe_un un_neg (pv 6)) (fun _ _ => rfl)) (pv 7)))
      (pss_one (ps_ret (pe_call (ok_nopen T) hr rfl T.g_next_open T.U_next_open.kp T.b_next_open .nil pass0 (pa_cons (pv 4) (pa_cons (pe_callB (cr_max rfl) (by rfl) T.max (by decide +kernel) (pa_cons (pe_op op_cat (pe_op op_cat (pv 5) (pe_callTy call_list_of (by rfl) T.list (by decide +kernel) (pa_cons (pe_slice sl_list (pv 1) (po_some (pe_un un_neg pe_int)) po_none) pa_nil))) (pe_lst (pa_cons (pv 2) pa_nil))) pa_nil)) pa_nil)))))), ?_⟩
    obtain ⟨ra, rxs, rfl, era, ora⟩ := od_tup hR
    match rxs, ora with
    | [lv, hv], .cons oL (.cons oH .nil) =>
    refine ⟨_, rfl, ra, _, rfl, SqT.of era, rfl, _, _, rfl, _, _, rfl, rfl, ?_⟩
    obtain ⟨la, ls, rfl, el, ol⟩ := od_tup oL
    have lls : ls.length = ps.length := by rw [ol.len, List.length_map, List.length_map]
    refine ⟨_, rfl, la, rfl, ⟨_, SqT.of el⟩, fun D hD => lc_tup (K := K) (a := la) (xs := ls) (fun i Hx => Same H Hx ∧ ∃ bs : List Int, Hx D = some (.lst (bs.map V.int)) ∧ bs.length ≤ i ∧ (∀ b ∈ bs, ∀ u, ps.all (apI rs u) = true → b ≤ u) ∧ (∀ j (hj : j < ps.length), j < i → ∀ u, (∀ b ∈ bs, b ≤ u) → apI rs u ps[j] = true)) ⟨same_upd hD, [], upd_same, Nat.le_refl _, (fun _ h => nomatch h), fun _ _ h => absurd h (Nat.not_lt_zero _)⟩ (fun i Hx _ q => SqT.of (q.1 _ _ el)) ?_ ?_⟩
    · rintro i x Hx hx ⟨sx, bs, eb, lb, b1, b2⟩
      obtain ⟨q, b, hpm, rfl, eb'⟩ := pair_at ol hx
      obtain ⟨hmp, hpe⟩ := List.getElem?_eq_some_iff.mp hpm
      have hpp := hp q (List.mem_of_getElem? hpm)
      have nDr := ne_of_none er hD
      refine ⟨b, _, rfl, SqT.of (sx _ _ eb'), rfl, _, _, rfl, _, _, rfl, rfl, rfl, ?_⟩
      refine ⟨_, rfl, r, _, rfl, .inl (SqL.of (sx _ _ er)), _, rfl, _, _, rfl, rfl, _, rfl, ?_⟩
      rw [List.length_map]
      refine ite2 (fun h => ?_) (fun h => ?_)
      · have h := of_decide_eq_true h
        obtain ⟨x, hxx⟩ := atI_some (ns := rs) hpp (by omega)
        refine ⟨_, rfl, _, rfl, _, rfl, r, _, _, V.int x, rfl, rfl, SqL.of (sx _ _ er), atI_mapV hxx, _, rfl, _, _, rfl, rfl, _, eb, by rw [List.length_map]; omega, same_into hD sx, bs ++ [x + q.2], by rw [upd_same, List.map_append]; rfl, by rw [List.length_append]; show _ + 1 ≤ _; omega, fun c hc u hu => ?_, fun j hj hji u hu => ?_⟩
        · rcases List.mem_append.mp hc with h1 | h1
          · exact b1 c h1 u hu
          · rw [List.mem_singleton.mp h1]
            have h2 := List.all_eq_true.mp hu q (List.mem_of_getElem? hpm)
            unfold apI at h2
            rw [hxx, decide_eq_false (by omega), Bool.false_or] at h2
            have h2 := of_decide_eq_true h2
            omega
        · by_cases z : j = i
          · subst z
            rw [hpe]
            have := hu (x + q.2) (List.mem_append_right _ (List.mem_singleton.mpr rfl))
            unfold apI
            rw [hxx, Bool.or_eq_true]
            exact .inr (decide_eq_true (by omega))
          · exact b2 j hj (by omega) u fun c hc => hu c (List.mem_append_left _ hc)
      · have h : ¬ q.1 ≤ ((rs.length : Nat) : Int) := fun z => h (decide_eq_true z)
        refine ⟨sx, bs, eb, by omega, b1, fun j hj hji u hu => ?_⟩
        by_cases z : j = i
        · subst z
          rw [hpe]
          unfold apI
          rw [decide_eq_true (show ((rs.length : Nat) : Int) < q.1 by omega), Bool.true_or]
        · exact b2 j hj (by omega) u hu
    · rintro Hx ⟨sx, bs, eb, lb, b1, b2⟩
      rw [lls] at lb b2
      refine gn ?_
      have erx := sx _ _ er
      refine ⟨_, rfl, _, rfl, _, rfl, 1, rfl, _, rfl, ?_⟩
      dsimp only [tNoPart]
      refine ⟨r, _, rfl, SqL.of erx, fun c1 hc1 => ?_⟩
      rw [cut_I]
      have lc : (cutI rs (some (-1)) none).length ≤ 4000 := by
        unfold cutI
        rw [List.length_take, List.length_drop]
        omega
      have sa := same_upd (o := HO.lst ((cutI rs (some (-1)) none).map V.int)) hc1
      refine ⟨c1, _, rfl, .inl (SqL.of upd_same), fun c2 hc2 => ?_⟩
      have sb := same_upd (o := HO.lst ((cutI rs (some (-1)) none).map V.int)) hc2
      refine ⟨D, c2, _, _, rfl, rfl, sb _ _ (sa _ _ eb), upd_same, by rw [List.length_map, List.length_map]; omega, fun c3 hc3 => ?_⟩
      have sc := same_upd (o := HO.lst (bs.map V.int ++ (cutI rs (some (-1)) none).map V.int)) hc3
      refine ⟨_, rfl, by show 1 ≤ sizeLine; omega, fun c4 hc4 => ?_⟩
      have sd := same_upd (o := HO.lst [V.int st]) hc4
      refine ⟨c3, c4, _, _, rfl, rfl, sd _ _ upd_same, upd_same, by rw [List.length_append, List.length_map, List.length_map]; show _ + 1 ≤ sizeLine; omega, fun c5 hc5 => ?_⟩
      have se := same_upd (o := HO.lst (bs.map V.int ++ (cutI rs (some (-1)) none).map V.int ++ [V.int st])) hc5
      refine ⟨c5, bs ++ cutI rs (some (-1)) none ++ [st], rfl, SqL.of (by rw [upd_same, List.map_append, List.map_append]; rfl), by rw [List.length_append]; exact Nat.succ_pos _, fun m hm hle => ?_⟩
      have s5 := sx.trans (sa.trans (sb.trans (sc.trans (sd.trans se))))
      refine ⟨hv, hs, m, rfl, oH.same s5, ho, fun u hu mu lu => k u _ ⟨⟨?_, fun x hx => ?_⟩, hu, ?_, fun v pv ov av => lu v ?_ ov⟩ s5⟩
      · have := hle st (List.mem_append_right _ (List.mem_singleton.mpr rfl))
        omega
      · have := hle x (List.mem_append_left _ (List.mem_append_right _ (last_in hx)))
        omega
      · refine List.all_eq_true.mpr fun q hq => ?_
        obtain ⟨j, hj, rfl⟩ := List.getElem_of_mem hq
        exact b2 j hj hj u fun c hc => by
          have := hle c (List.mem_append_left _ (List.mem_append_left _ hc))
          omega
      · rcases List.mem_append.mp hm with h | h
        · rcases List.mem_append.mp h with h | h
          · exact b1 m h v av
          · have h0 : 0 < rs.length := by
              cases hz : rs with
              | nil => rw [hz] at h; cases h
              | cons a l => exact Nat.succ_pos _
            rw [cut_last h0] at h
            rw [List.mem_singleton.mp h]
            exact pv.2 _ (last_at h0)
        · rw [List.mem_singleton.mp h]
          exact pv.1
def spSoonA (K : PySem.W.Frag) : Sp := fun vs H Q _ => ∃ (rv : V) (r : Addr) (n st : Int) (ps : List (Int × Int)) (hs ns : List Int), vs = [rv, .ref r, .int n, .int st] ∧ Od H rv (rulesP ps hs) ∧ ps.length ≤ 4 ∧ (∀ p ∈ ps, 1 ≤ p.1) ∧ (∃ j : Nat, ∃ h : j < hs.length, hs[j] = 1) ∧ (SqL K H r (ns.map V.int) ∨ SqT K H r (ns.map V.int)) ∧ ns.length ≤ 1000 ∧ 0 ≤ n ∧ n ≤ 1000 ∧
  ∀ z ts H', Same H H' → H' z = some (.lst (ts.map V.int)) → ts.length = n.toNat → SRow ps hs ns st ts → Q (.ref z) H'
theorem sc_soona : FnScope ["rules", "asks", "many", "since", "rows", "_"] ["rules", "asks", "many", "since"] (defScope s_soonest_asks) := ⟨rfl, rfl, rfl, by decide +kernel, rfl, by decide +kernel, by decide +kernel⟩
theorem ok_soona (T : D K mg) : FnOk P w K mg base CX0 4 T.f_soonest_asks T.d_soonest_asks ["rules", "asks", "many", "since"] (spSoonA K) := by
  refine T.U_soonest_asks.ok sc_soona (fun vs H Q E h => ?_) (fun cdv A outer s H vs Q E hr h => ?_)
  · obtain ⟨rv, r, n, st, ps, hs, ns, rfl, _⟩ := h
    rfl
  · obtain ⟨rv, r, nn, st, ps, hs, ns, rfl, hR, hl4, hp, ho, er, hn, n0, n1, k⟩ := h
    have nd := sc_soona.nd
    have mz : 5000 ≤ sizeLine := by decide
    refine ⟨_, pss_cons (ps_set (i := 4) nd rfl (.inl rfl) (pe_callTy call_list_of (by rfl) T.list (by decide +kernel) (pa_cons (pv 1) pa_nil)))
      (pss_cons (ps_for PassesOwn.never rfl (pi_range1 rfl T.range (pa_cons (pv 2) pa_nil)) (pg_name (i := 5) nd rfl (.inl rfl))
        (pss_one (ps_expr (pe_bm PySem.F.plainAttrs_list PySem.F.slot_list_append PySem.F.type_list_append mt_append (pv 4) (pa_cons (pe_call (ok_next T) hr rfl T.g_next_ask T.U_next_ask.kp T.b_next_ask .nil pass0 (pa_cons (pv 0) (pa_cons (pv 4) (pa_cons (pv 3) pa_nil)))) pa_nil)))))
      (pss_one (ps_ret (pe_slice sl_list (pv 4) (po_some (pe_callB call_len_seq (by rfl) T.len PySem.boot_len (pa_cons (pv 1) pa_nil))) po_none)))), ?_⟩
    have er' : ∀ H2, Same H H2 → (SqL K H2 r (ns.map V.int) ∨ SqT K H2 r (ns.map V.int)) := fun H2 s2 => er.elim (fun h => .inl (sql_same s2 h)) (fun h => .inr (sqt_same s2 h))
    refine ⟨_, rfl, r, _, rfl, er, fun Ln hLn => gn ?_⟩
    have s1 := same_upd (o := HO.lst (ns.map V.int)) hLn
    have e1 : upd H Ln (.lst (ns.map V.int)) Ln = some (.lst ((ns ++ []).map V.int)) := by rw [upd_same, List.append_nil]
    generalize upd H Ln (.lst (ns.map V.int)) = H1 at *
    refine ⟨_, rfl, nn, rfl, by omega, by omega, for_range (lo := 0) (n := _) (fun i σ H2 => Same H H2 ∧ ∃ (ts : List Int) (v5 : Option V), H2 Ln = some (.lst ((ns ++ ts).map V.int)) ∧ σ = [some rv, some (.ref r), some (.int nn), some (.int st), some (.ref Ln), v5] ∧ ts.length = i ∧ SRow ps hs ns st ts) ⟨s1, [], none, e1, rfl, rfl, SRow.nil⟩ ?_ ?_⟩
    · rintro i σ H2 hi ⟨s2, ts, v5, e2, rfl, lts, srow⟩
      have hrl : (ns ++ ts).length ≤ 2000 := by rw [List.length_append]; omega
      refine gn ?_
      refine ⟨_, rfl, .inl ⟨rfl, _, SqL.of e2⟩, _, rfl, _, rfl, _, rfl, rv, Ln, st, ps, hs, ns ++ ts, rfl, hR.same s2, hl4, hp, ho, e2, by omega, fun t H3 nx s3 => ?_⟩
      refine ⟨Ln, _, _, rfl, rfl, s3 _ _ e2, by rw [List.length_map]; omega, ?_⟩
      refine ⟨same_into hLn (s2.trans s3), ts ++ [t], _, ?_, rfl, by rw [List.length_append, lts]; rfl, SRow.snoc srow nx⟩
      rw [upd_same]
      simp [List.map_append]
    · rintro σ H2 ⟨s2, ts, v5, e2, rfl, lts, srow⟩
      refine ⟨_, rfl, _, rfl, r, _, rfl, er' _ s2, _, rfl, ?_⟩
      dsimp only [tNoPart]
      refine ⟨Ln, _, rfl, SqL.of e2, fun z hz => ?_⟩
      have ecut : cutV ((ns ++ ts).map V.int) (some (((ns.map V.int).length : Nat) : Int)) none = ts.map V.int := by
        rw [cutV_from, List.map_append, List.drop_left]
      rw [ecut]
      exact k z ts _ (s2.trans (same_upd hz)) upd_same lts srow
end
end KP

set_option Elab.async false
set_option maxRecDepth 100000
set_option maxHeartbeats 4000000
set_option linter.all false
/-! Ours: the law's draws: the well, a pick, one of some things, one sign of a text. -/
namespace KP
open PySem PySem.Spec PyProof.Rows L2 Gr GxR
/-- a well stands at p -/
def Well (H : Hp) (p : Addr) : Prop := ∃ d m c : Int, H p = some (.lst [.int d, .int m, .int c])
/-- all is as it was but what stands at p -/
def But (H H' : Hp) (p : Addr) : Prop := ∀ b o, H b = some o → b ≠ p → H' b = some o
theorem But.trans {H H1 H2 : Hp} {p : Addr} (a : But H H1 p) (b : But H1 H2 p) : But H H2 p := fun c o h n => b c o (a c o h n) n
theorem But.refl (H : Hp) (p : Addr) : But H H p := fun _ _ h _ => h

def spPick : Sp := fun vs H Q _ => ∃ (p : Addr) (t : Int), vs = [.ref p, .int t] ∧ Well H p ∧ 0 < t ∧ t < 1073741824 ∧
  ∀ (r : Int) (H' : Hp), 0 ≤ r → r < t → Well H' p → But H H' p → Q (.int r) H'

section
variable {P : Program} {w : World} {K : PySem.W.Frag} {mg : Str → Option Value} {base : Heap}
theorem scP : FnScope ["_law_well_here", "_law_top", "_law_digit"] ["_law_well_here", "_law_top"] (defScope s_l_pick) := ⟨rfl, rfl, rfl, by decide +kernel, rfl, by decide +kernel, by decide +kernel⟩
theorem ok_l_pick (T : D K mg) : FnOk P w K mg base CX0 1 T.f_l_pick T.d_l_pick ["_law_well_here", "_law_top"] spPick := by
  refine T.U_l_pick.ok scP (fun vs H Q E h => ?_) (fun cdv A outer s H vs Q E hr h => ?_)
  · obtain ⟨p, t, rfl, _⟩ := h
    rfl
  · obtain ⟨p, t, rfl, ⟨d, m, c, hp⟩, ht, ht2, k⟩ := h
    refine ⟨_, pss_cons (ps_if (pt_cmpR op_gt (pe_ix ix_list (pv 0) pe_int (fun _ _ => rfl)) pe_int (nomark _))
        (pss_cons (ps_asg (pe_callB call_divmod (by rfl) T.divmod boot_divmod (pa_cons (pe_ix ix_list (pv 0) pe_int (fun _ _ => rfl)) (pa_cons (pv 1) pa_nil)))
          (pg_tup rfl (pgs_cons (pg_sub (pv 0) pe_int set_list) (pgs_cons (pg_name (i := 2) scP.nd rfl (.inl rfl)) pgs_nil))))
        (pss_one (ps_ret (pv 2)))) pss_nil)
      (pss_cons (ps_asg (pe_op op_add (pe_ix ix_list (pv 0) pe_int (fun _ _ => rfl)) pe_int) (pg_sub (pv 0) pe_int set_list))
      (pss_cons (ps_asg (pe_op op_mod (pe_callTy call_int1 (by rfl) T.int PyProof.Rows.boot_int (pa_cons (pe_op op_add (pe_op op_mul (pe_ix ix_list (pv 0) pe_int (fun _ _ => rfl)) pe_int)
          (pe_op op_mul pe_int (pe_ix ix_list (pv 0) pe_int (fun _ _ => rfl)))) pa_nil)) pe_int) (pg_sub (pv 0) pe_int set_list))
      (pss_one (ps_ret (pe_op op_mod (pe_callTy call_int1 (by rfl) T.int PyProof.Rows.boot_int (pa_cons (pe_op op_fdiv (pe_ix ix_list (pv 0) pe_int (fun _ _ => rfl)) pe_int) pa_nil)) (pv 1)))))), ?_⟩
    have a0 : ∀ x y z : V, atI [x, y, z] (0 : Int) = some x := fun _ _ _ => rfl
    have a1 : ∀ x y z : V, atI [x, y, z] (1 : Int) = some y := fun _ _ _ => rfl
    have a2 : ∀ x y z : V, atI [x, y, z] (2 : Int) = some z := fun _ _ _ => rfl
    refine ⟨_, rfl, p, _, 0, _, rfl, rfl, SqL.of hp, a0 _ _ _, d, 0, rfl, rfl, _, rfl, ?_⟩
    refine ite2 (fun hd => ?_) (fun hd => ?_)
    · refine ⟨_, rfl, p, _, 0, _, rfl, rfl, SqL.of hp, a0 _ _ _, _, rfl, d, t, rfl, ⟨ht, ht2⟩, fun q hq => ?_⟩
      have nq : p ≠ q := ne_of_none hp hq
      refine ⟨q, _, rfl, .inl (.inl upd_same), rfl, _, _, rfl, ?_⟩
      refine ⟨_, rfl, p, _, 0, 0, rfl, rfl, (by rw [upd_ne nq]; exact hp), rfl, ?_⟩
      refine ⟨_, _, rfl, rfl, ?_⟩
      refine ⟨_, rfl, k (d % t) _ (Int.emod_nonneg _ (by omega)) (Int.emod_lt_of_pos _ ht) ⟨d / t, m, c, upd_same⟩ fun b o e n => ?_⟩
      rw [upd_ne n, upd_ne (ne_of_none e hq)]
      exact e
    · refine ⟨_, rfl, p, _, 2, _, rfl, rfl, SqL.of hp, a2 _ _ _, c, 1, rfl, rfl, _, rfl, p, _, 2, 2, rfl, rfl, hp, rfl, ?_⟩
      refine ⟨_, rfl, p, _, 1, _, rfl, rfl, SqL.of upd_same, a1 _ _ _, m, 48271, rfl, rfl, .inr (by decide), _, rfl, p, _, 2, _, rfl, rfl, SqL.of upd_same, a2 _ _ _, 1013, c + 1, rfl, rfl, .inl (by decide), _, _, rfl, rfl, .inl ⟨_, rfl, _, _, rfl, rfl, (by show (0 : Int) < 2038074743; decide), ?_⟩⟩
      refine ⟨_, rfl, p, _, 1, 1, rfl, rfl, upd_same, rfl, ?_⟩
      refine ⟨_, rfl, p, _, 1, _, rfl, rfl, SqL.of upd_same, a1 _ _ _, _, 23, rfl, rfl, ⟨by decide, by decide⟩, .inl ⟨_, rfl, _, rfl, _, t, rfl, rfl, ht, ?_⟩⟩
      refine k _ _ (Int.emod_nonneg _ (by omega)) (Int.emod_lt_of_pos _ ht) ⟨_, _, _, upd_same⟩ fun b o e n => ?_
      rw [upd_ne n, upd_ne n]
      exact e
end
def spOne : Sp := fun vs H Q _ => ∃ (p q : Addr) (xs : List V), vs = [.ref p, .ref q] ∧ Well H p ∧ H q = some (.lst xs) ∧ q ≠ p ∧ 0 < xs.length ∧ xs.length ≤ 1000 ∧
  ∀ (i : Nat) (v : V) (H' : Hp), xs[i]? = some v → Well H' p → But H H' p → Q v H'
def spWell (K : PySem.W.Frag) : Sp := fun vs H Q _ => ∃ (a : Addr) (ns : List Int) (t : Int), vs = [.ref a, .int t] ∧ SqL K H a (ns.map V.int) ∧ 0 ≤ t ∧ ns.length ≤ 1000 ∧
  ∀ (q : Addr) (H' : Hp), H q = none → Well H' q → Same H H' → Q (.ref q) H'

section
variable {P : Program} {w : World} {K : PySem.W.Frag} {mg : Str → Option Value} {base : Heap}
theorem scO : FnScope ["_law_well_here", "_law_some"] ["_law_well_here", "_law_some"] (defScope s_l_one) := ⟨rfl, rfl, rfl, by decide +kernel, rfl, by decide +kernel, by decide +kernel⟩
theorem ok_l_one (T : D K mg) :
    FnOk P w K mg base CX0 2 T.f_l_one T.d_l_one ["_law_well_here", "_law_some"] spOne := by
  refine T.U_l_one.ok scO (fun vs H Q E h => ?_) (fun cdv A outer s H vs Q E hr h => ?_)
  · obtain ⟨p, q, xs, rfl, _⟩ := h
    rfl
  · obtain ⟨p, q, xs, rfl, hp, hq, nq, h0, h1, k⟩ := h
    refine ⟨_, pss_one (ps_ret (pe_ix ix_list (pv 1) (pe_call (ok_l_pick T) hr rfl T.g_l_pick T.U_l_pick.kp T.b_l_pick .nil pass0 (pa_cons (pv 0) (pa_cons (pe_callB call_len_seq (by rfl) T.len PySem.boot_len (pa_cons (pv 1) pa_nil)) pa_nil))) (fun _ _ => rfl))), ?_⟩
    refine ⟨_, rfl, _, rfl, _, rfl, q, xs, rfl, .inl (SqL.of hq), p, (xs.length : Int), rfl, hp, by omega, by omega, fun r H' r0 r1 hw hb => ?_⟩
    have hlt : r.toNat < xs.length := by omega
    have e : atI xs r = some (xs[r.toNat]) := by
      have := atI_nat (xs := xs) (j := r.toNat) (List.getElem?_eq_getElem hlt)
      rw [Int.toNat_of_nonneg r0] at this
      exact this
    exact ⟨q, xs, r, _, rfl, rfl, SqL.of (hb _ _ hq nq), e, k r.toNat _ H' (List.getElem?_eq_getElem hlt) hw hb⟩

theorem scW : FnScope ["_law_script", "_law_turn", "_law_mixed", "_law_each", "_law_cell", "_law_digits"] ["_law_script", "_law_turn"] (defScope s_l_well) := ⟨rfl, rfl, rfl, by decide +kernel, rfl, by decide +kernel, by decide +kernel⟩
theorem ok_l_well (T : D K mg) : FnOk P w K mg base CX0 1 T.f_l_well T.d_l_well ["_law_script", "_law_turn"] (spWell K) := by
  refine T.U_l_well.ok scW (fun vs H Q E h => ?_) (fun cdv A outer s H vs Q E hr h => ?_)
  · obtain ⟨a, ns, t, rfl, _⟩ := h
    rfl
  · obtain ⟨a, ns, t, rfl, hS, h0, hl, k⟩ := h
    refine ⟨_, pss_cons (ps_set (i := 2) scW.nd rfl (.inl rfl) (pe_op op_add pe_int (pe_op op_mul pe_int (pv 1))))
      (pss_cons (ps_for PassesOwn.never rfl (pi_list (pe_slice sl_list (pv 0) po_none (po_some pe_int))) (pg_name (i := 3) scW.nd rfl (.inl rfl))
        (pss_one (ps_set (i := 2) scW.nd rfl (.inl rfl) (pe_op op_mod (pe_callTy call_int1 (by rfl) T.int PyProof.Rows.boot_int (pa_cons
          (pe_op op_add (pe_op op_add (pe_op op_mul (pv 2) pe_int) (pe_op op_mul (pe_op op_mod (pe_callTy call_int1 (by rfl) T.int PyProof.Rows.boot_int (pa_cons (pv 3) pa_nil)) pe_int) pe_int)) pe_int) pa_nil)) pe_int))))
      (pss_cons (ps_set (i := 4) scW.nd rfl (.inl rfl) (pe_ifExp (pt_cmpR op_lt (pv 1) (pe_callB call_len_seq (by rfl) T.len PySem.boot_len (pa_cons (pv 0) pa_nil)) (nomark _))
        (pe_callTy call_int1 (by rfl) T.int PyProof.Rows.boot_int (pa_cons (pe_ix ix_list (pv 0) (pv 1) (fun _ _ => rfl)) pa_nil)) (pv 2)))
      (pss_cons (ps_set (i := 5) scW.nd rfl (.inl rfl) (pe_ifExp (pt_cmpR op_ge (pe_callB call_abs (by rfl) T.abs PyProof.Rows.boot_abs (pa_cons (pv 4) pa_nil)) (pe_op op_pow pe_int pe_int) (nomark _))
        (pe_callB call_abs (by rfl) T.abs PyProof.Rows.boot_abs (pa_cons (pv 4) pa_nil)) pe_int))
      (pss_cons (ps_set (i := 2) scW.nd rfl (.inl rfl) (pe_op op_mod (pe_callTy call_int1 (by rfl) T.int PyProof.Rows.boot_int (pa_cons
          (pe_op op_add (pe_op op_add (pe_op op_mul (pv 2) pe_int) (pe_op op_mul (pe_op op_mod (pe_callTy call_int1 (by rfl) T.int PyProof.Rows.boot_int (pa_cons (pv 4) pa_nil)) pe_int) pe_int)) pe_int) pa_nil)) pe_int))
      (pss_one (ps_ret (pe_lst (pa_cons (pv 5) (pa_cons (pv 2) (pa_cons pe_int pa_nil)))))))))), ?_⟩
    refine ⟨_, rfl, 5003, t, rfl, rfl, .inl (by decide), _, _, rfl, rfl, ?_⟩
    refine ⟨_, rfl, 9, rfl, a, _, rfl, hS, fun p0 hp0 => ?_⟩
    have s0 : Same H (upd H p0 (.lst (cutV (ns.map V.int) none (some 9)))) := fun b o e => by
      rw [upd_ne (ne_of_none e hp0)]
      exact e
    have cutInt : ∀ (i : Nat) (y : V), (cutV (ns.map V.int) none (some 9))[i]? = some y → ∃ z, y = V.int z := fun i y hy => by
      have hm := List.mem_of_mem_drop (List.mem_of_mem_take (List.mem_of_getElem? hy))
      obtain ⟨z, _, e⟩ := List.mem_map.mp hm
      exact ⟨z, e.symm⟩
    refine ⟨p0, rfl, ⟨_, SqL.of upd_same⟩, for_list (K := K) (a := p0) (xs := cutV (ns.map V.int) none (some 9))
      (fun i σ H2 => ∃ (m : Int) (v : Option V), σ = [some (.ref a), some (.int t), some (.int m), v, none, none] ∧ H2 = upd H p0 (.lst (cutV (ns.map V.int) none (some 9))))
      ⟨_, none, rfl, rfl⟩ (fun i σ H2 _ ⟨_, _, _, e⟩ => by rw [e]; exact SqL.of upd_same) ?_ ?_⟩
    · rintro i y σ H2 hi ⟨m, v, rfl, rfl⟩
      obtain ⟨z, rfl⟩ := cutInt i y hi
      have hP : (0 : Int) < 2038074743 := by decide
      exact ⟨_, rfl, m, 30011, rfl, rfl, .inr (by decide), _, rfl, .inl ⟨z, rfl, z, 2038074743, rfl, rfl, hP, _, 7001, rfl, rfl, .inr (by decide), _, _, rfl, rfl, _, 13, rfl, rfl,
        .inl ⟨_, rfl, _, 2038074743, rfl, rfl, hP, _, _, rfl, rfl⟩⟩⟩
    · rintro σ H2 ⟨m, v, rfl, rfl⟩
      have hP : (0 : Int) < 2038074743 := by decide
      refine ⟨_, rfl, _, rfl, a, _, rfl, .inl (s0.seq hS), t, _, rfl, rfl, _, rfl, ?_⟩
      refine ite2 (fun hlt => ?_) (fun _ => ?_)
      · have hlt' : t < ((ns.map V.int).length : Int) := of_decide_eq_true hlt
        rw [List.length_map] at hlt'
        have hj : t.toNat < (ns.map V.int).length := by
          rw [List.length_map]
          omega
        have e : atI (ns.map V.int) t = some (.int (ns[t.toNat]'(by omega))) := by
          have q := atI_nat (xs := ns.map V.int) (j := t.toNat) (List.getElem?_eq_getElem hj)
          rw [Int.toNat_of_nonneg h0, List.getElem_map] at q
          exact q
        refine ⟨_, rfl, _, rfl, a, _, t, _, rfl, rfl, s0.seq hS, e, .inl ⟨_, rfl, ?_⟩⟩
        refine ⟨_, rfl, _, rfl, 10, 18, rfl, rfl, ⟨by decide, by decide, by decide⟩, _, _, rfl, rfl, _, rfl, ?_⟩
        refine ite2 (fun _ => ?_) (fun _ => ?_)
        · refine ⟨_, rfl, _, rfl, ?_⟩
          exact ⟨_, rfl, _, 16807, rfl, rfl, .inr (by decide), _, rfl, .inl ⟨_, rfl, _, 2038074743, rfl, rfl, hP, _, 39373, rfl, rfl, .inr (by decide), _, _, rfl, rfl, _, 29, rfl, rfl,
            .inl ⟨_, rfl, _, 2038074743, rfl, rfl, hP, _, rfl, _, rfl, by show 3 ≤ sizeLine; decide, fun p1 hp1 => k p1 _ (s0.free hp1) ⟨_, _, _, upd_same⟩ (s0.trans fun b o e => by rw [upd_ne (ne_of_none e hp1)]; exact e)⟩⟩⟩
        · exact ⟨_, rfl, _, 16807, rfl, rfl, .inr (by decide), _, rfl, .inl ⟨_, rfl, _, 2038074743, rfl, rfl, hP, _, 39373, rfl, rfl, .inr (by decide), _, _, rfl, rfl, _, 29, rfl, rfl,
            .inl ⟨_, rfl, _, 2038074743, rfl, rfl, hP, _, rfl, _, rfl, by show 3 ≤ sizeLine; decide, fun p1 hp1 => k p1 _ (s0.free hp1) ⟨_, _, _, upd_same⟩ (s0.trans fun b o e => by rw [upd_ne (ne_of_none e hp1)]; exact e)⟩⟩⟩
      · refine ⟨_, rfl, ?_⟩
        refine ⟨_, rfl, _, rfl, 10, 18, rfl, rfl, ⟨by decide, by decide, by decide⟩, _, _, rfl, rfl, _, rfl, ?_⟩
        refine ite2 (fun _ => ?_) (fun _ => ?_)
        · refine ⟨_, rfl, _, rfl, ?_⟩
          exact ⟨_, rfl, _, 16807, rfl, rfl, .inr (by decide), _, rfl, .inl ⟨_, rfl, _, 2038074743, rfl, rfl, hP, _, 39373, rfl, rfl, .inr (by decide), _, _, rfl, rfl, _, 29, rfl, rfl,
            .inl ⟨_, rfl, _, 2038074743, rfl, rfl, hP, _, rfl, _, rfl, by show 3 ≤ sizeLine; decide, fun p1 hp1 => k p1 _ (s0.free hp1) ⟨_, _, _, upd_same⟩ (s0.trans fun b o e => by rw [upd_ne (ne_of_none e hp1)]; exact e)⟩⟩⟩
        · exact ⟨_, rfl, _, 16807, rfl, rfl, .inr (by decide), _, rfl, .inl ⟨_, rfl, _, 2038074743, rfl, rfl, hP, _, 39373, rfl, rfl, .inr (by decide), _, _, rfl, rfl, _, 29, rfl, rfl,
            .inl ⟨_, rfl, _, 2038074743, rfl, rfl, hP, _, rfl, _, rfl, by show 3 ≤ sizeLine; decide, fun p1 hp1 => k p1 _ (s0.free hp1) ⟨_, _, _, upd_same⟩ (s0.trans fun b o e => by rw [upd_ne (ne_of_none e hp1)]; exact e)⟩⟩⟩
end

/-- one sign of a text -/
def spOneS : Sp := fun vs H Q _ => ∃ (p : Addr) (z : Str), vs = [.ref p, .str z] ∧ Well H p ∧ 0 < z.length ∧ z.length ≤ 1000 ∧
  ∀ (c : Nat) (H' : Hp), c ∈ z.cps.toList → Well H' p → But H H' p → Q (.str ⟨#[c]⟩) H'
section
variable {P : Program} {w : World} {K : PySem.W.Frag} {mg : Str → Option Value} {base : Heap}
theorem ok_l_oneS (T : D K mg) : FnOk P w K mg base CX0 2 T.f_l_one T.d_l_one ["_law_well_here", "_law_some"] spOneS := by
  refine T.U_l_one.ok scO (fun vs H Q E h => ?_) (fun cdv A outer s H vs Q E hr h => ?_)
  · obtain ⟨p, z, rfl, _⟩ := h
    rfl
  · obtain ⟨p, z, rfl, hp, h0, h1, k⟩ := h
    refine ⟨_, pss_one (ps_ret (pe_ix ix_str (pv 1) (pe_call (ok_l_pick T) hr rfl T.g_l_pick T.U_l_pick.kp T.b_l_pick .nil pass0 (pa_cons (pv 0) (pa_cons (pe_callB call_len_str (by rfl) T.len PySem.boot_len (pa_cons (pv 1) pa_nil)) pa_nil))) (fun _ _ => rfl))), ?_⟩
    refine ⟨_, rfl, _, rfl, _, rfl, z, rfl, Nat.le_trans h1 (by decide), ?_⟩
    refine ⟨p, _, rfl, hp, by omega, by omega, fun r H' r0 r1 hw hb => ?_⟩
    have hlt : r.toNat < z.cps.toList.length := by
      have e : z.cps.toList.length = z.length := rfl
      omega
    have e : atI z.cps.toList r = some (z.cps.toList[r.toNat]) := by
      have := atI_nat (xs := z.cps.toList) (j := r.toNat) (List.getElem?_eq_getElem hlt)
      rw [Int.toNat_of_nonneg r0] at this
      exact this
    exact ⟨z, r, _, rfl, rfl, Nat.le_trans h1 (by decide), e, k _ H' (List.getElem_mem hlt) hw hb⟩
end
end KP

set_option Elab.async false
set_option maxRecDepth 100000
set_option maxHeartbeats 4000000
set_option linter.all false
/-! Ours: drawn limits and hours. -/
namespace KP
open PySem PySem.Spec PyProof.Rows L2 Gr GxR
/-- a value drawn from the well at p -/
def Drawn (H : Hp) (p : Addr) (R : PyData → Prop) (Q : VK) : Prop := ∀ v d H', But H H' p → Well H' p → Od (hide H' [p]) v d → R d → Q v H'
theorem well_ne {H : Hp} {p q : Addr} (w : Well H p) (h : H q = none) : q ≠ p := fun z => by
  obtain ⟨_, _, _, e⟩ := w
  rw [z, e] at h
  cases h
theorem Well.same {H H1 : Hp} {p : Addr} (w : Well H p) (s : Same H H1) : Well H1 p := let ⟨a, b, c, e⟩ := w; ⟨a, b, c, s _ _ e⟩
theorem Well.put {H : Hp} {p q : Addr} {o : HO} (w : Well H p) (n : q ≠ p) : Well (upd H q o) p := let ⟨a, b, c, e⟩ := w; ⟨a, b, c, (upd_ne (Ne.symm n)).trans e⟩
theorem But.same' {H H1 : Hp} {p : Addr} (s : Same H H1) : But H H1 p := fun b o e _ => s b o e
theorem But.put {H H1 : Hp} {p D : Addr} {o : HO} (b : But H H1 p) (n : H D = none) : But H (upd H1 D o) p := fun x o' e nx => by
  rw [upd_ne (ne_of_none e n)]
  exact b x o' e nx
theorem hide_put {H H1 : Hp} {p D : Addr} {o : HO} (b : But H H1 p) : Same (hide H [p, D]) (hide (upd H1 D o) [p, D]) := fun a x e => by
  unfold hide at e ⊢
  split at e
  · cases e
  · rename_i z
    rw [if_neg z, upd_ne (fun q => z (by rw [q]; simp))]
    exact b a x e fun q => z (by rw [q]; simp)
theorem hide_one {H : Hp} {p D : Addr} : Same (hide H [p, D]) (hide H [p]) := fun a x e => by
  unfold hide at e ⊢
  split at e
  · cases e
  · rename_i z
    rw [if_neg fun q => z (by rw [List.mem_singleton.mp q]; simp)]
    exact e
theorem hide_but {H H1 : Hp} {p : Addr} (b : But H H1 p) : Same (hide H [p]) (hide H1 [p]) := fun a x e => by
  unfold hide at e ⊢
  split at e
  · cases e
  · rename_i z
    rw [if_neg z]
    exact b a x e fun q => z (by rw [q]; simp)
theorem hide_at2 {H : Hp} {p D a : Addr} {o : HO} (e : H a = some o) (h1 : a ≠ p) (h2 : a ≠ D) : hide H [p, D] a = some o := hide_at e (by simp [h1, h2])
theorem hide_at1 {H : Hp} {p a : Addr} {o : HO} (e : H a = some o) (h1 : a ≠ p) : hide H [p] a = some o := hide_at e (by simp [h1])
def prD (p : Int × Int) : PyData := .tuple [.int p.1, .int p.2]
def Lim (ps : List (Int × Int)) : Prop := ps.length ≤ 4 ∧ ∀ p ∈ ps, 1 ≤ p.1 ∧ p.1 ≤ 6 ∧ 1 ≤ p.2 ∧ p.2 ≤ 12
def limR : PyData → Prop := fun d => ∃ ps, d = .tuple (ps.map prD) ∧ Lim ps
def spSomeLim : Sp := fun vs H Q _ => ∃ (p : Addr) (tp wd : Int), vs = [.ref p, .int tp, .int wd] ∧ Well H p ∧ 0 < tp ∧ tp ≤ 6 ∧ 0 < wd ∧ wd ≤ 12 ∧ Drawn H p limR Q
section
variable {P : Program} {w : World} {K : PySem.W.Frag} {mg : Str → Option Value} {base : Heap}
theorem sc_slim : FnScope ["_law_well_here", "_law_top", "_law_width", "_law_number", "_law_turn"] ["_law_well_here", "_law_top", "_law_width"] (defScope s_l_some_limits) := ⟨rfl, rfl, rfl, by decide +kernel, rfl, by decide +kernel, by decide +kernel⟩
theorem ok_slim (T : D K mg) : FnOk P w K mg base CX0 3 T.f_l_some_limits T.d_l_some_limits ["_law_well_here", "_law_top", "_law_width"] spSomeLim := by
  refine T.U_l_some_limits.ok sc_slim (fun vs H Q E h => ?_) (fun cdv A outer s H vs Q E hr h => ?_)
  · obtain ⟨p, tp, wd, rfl, _⟩ := h
    rfl
  · obtain ⟨p, tp, wd, rfl, hp, t0, t1, w0, w1, k⟩ := h
    have nd := sc_slim.nd
    have mz : 5000 ≤ sizeLine := by decide
    refine ⟨_, pss_cons (ps_set (i := 3) nd rfl (.inl rfl) (pe_call (ok_l_one T) hr rfl T.g_l_one T.U_l_one.kp T.b_l_one .nil pass0 (pa_cons (pv 0) (pa_cons (pe_lst (pa_cons pe_int (pa_cons pe_int (pa_cons pe_int (pa_cons pe_int (pa_cons pe_int (pa_cons pe_int (pa_cons pe_int (pa_cons pe_int (pa_cons pe_int pa_nil)))))))))) pa_nil))))
      (pss_one (ps_ret (pe_callTy call_tuple_of (by rfl) T.tuple (by decide +kernel) (pa_cons (pe_lc (own := [("_law_turn", 4)]) (g := gName 4) (tt := tYes) rfl nd (pi_range1 rfl T.range (pa_cons (pv 3) pa_nil)) (blkOk_by (N := ["_law_well_here", "_law_top", "_law_width", "_law_number", "_law_turn"]) (sc := defScope s_l_some_limits) (by decide +kernel)) (fun _ _ _ _ _ => pg_name (i := 4) nd rfl (.inl rfl)) (fun _ _ _ _ _ => pts_nil) (fun _ _ _ _ _ => pe_tup (pa_cons (pe_op op_add pe_int (pe_call (ok_l_pick T) (hr.mono (by decide)) rfl T.g_l_pick T.U_l_pick.kp T.b_l_pick .nil pass0 (pa_cons (pv 0) (pa_cons (pv 1) pa_nil)))) (pa_cons (pe_op op_add pe_int (pe_call (ok_l_pick T) (hr.mono (by decide)) rfl T.g_l_pick T.U_l_pick.kp T.b_l_pick .nil pass0 (pa_cons (pv 0) (pa_cons (pv 2) pa_nil)))) pa_nil)))) pa_nil)))), ?_⟩
    refine ⟨_, rfl, by show 9 ≤ sizeLine; omega, fun q hq => ?_⟩
    have sq := same_upd (o := HO.lst [V.int 1, V.int 1, V.int 1, V.int 2, V.int 2, V.int 2, V.int 3, V.int 4, V.int 0]) hq
    refine ⟨p, q, _, rfl, hp.same sq, upd_same, well_ne hp hq, by decide, by decide, fun i v H1 hv w1' b1 => ?_⟩
    obtain ⟨n, rfl, n0, n4⟩ : ∃ n : Int, v = .int n ∧ 0 ≤ n ∧ n ≤ 4 := by
      have hm := List.mem_of_getElem? hv
      simp only [List.mem_cons, List.not_mem_nil, or_false] at hm
      rcases hm with rfl | rfl | rfl | rfl | rfl | rfl | rfl | rfl | rfl <;> exact ⟨_, rfl, by decide, by decide⟩
    have b01 : But H H1 p := (But.same' sq).trans b1
    refine gn ?_
    dsimp only
    refine ⟨_, rfl, n, rfl, by omega, by omega, fun D hD => lc_range (fun i Hx => But H1 Hx p ∧ Well Hx p ∧ ∃ (vs : List V) (ps : List (Int × Int)), Hx D = some (.lst vs) ∧ vs.length = i ∧ ps.length = i ∧ OdAll (hide Hx [p, D]) vs (ps.map prD) ∧ ∀ p ∈ ps, 1 ≤ p.1 ∧ p.1 ≤ 6 ∧ 1 ≤ p.2 ∧ p.2 ≤ 12)
      ⟨But.same' (same_upd hD), w1'.same (same_upd hD), [], [], upd_same, rfl, rfl, .nil, fun _ h => nomatch h⟩ ?_ ?_⟩
    · rintro i Hx hi ⟨bx, wx, vs, ps, ev, lv, lp, ov, hps⟩
      have nDp := well_ne w1' hD
      refine ⟨rfl, ?_⟩
      unfold tYes
      dsimp only
      rw [if_pos rfl]
      refine ⟨_, rfl, _, rfl, p, tp, rfl, wx, t0, by omega, fun r H3 r0 r1 w3 b3 => ⟨_, _, rfl, rfl, _, rfl, _, rfl, p, wd, rfl, w3, w0, by omega, fun r' H4 r0' r1' w4 b4 => ⟨_, _, rfl, rfl, by show 2 ≤ sizeLine; omega, fun t ht => ?_⟩⟩⟩
      have b34 := b3.trans b4
      have e4 : H4 D = some (.lst vs) := b34 _ _ ev nDp
      have st := same_upd (o := HO.tup [V.int (1 + r), V.int (1 + r')]) ht
      have ntp := well_ne w4 ht
      have ntD : t ≠ D := fun z => by rw [z, e4] at ht; cases ht
      refine ⟨_, st _ _ e4, by omega, (bx.trans (b34.trans (But.same' st))).put hD, (w4.same st).put nDp, _, ps ++ [(1 + r, 1 + r')], upd_same, by rw [List.length_append, lv]; rfl, by rw [List.length_append, lp]; rfl, ?_, fun x hx => ?_⟩
      · rw [List.map_append]
        refine (ov.same (hide_put (b34.trans (But.same' st)))).app (.cons (.tup (hide_at2 ((upd_ne ntD).trans upd_same) ntp ntD) (.cons (.int _) (.cons (.int _) .nil))) .nil)
      · rcases List.mem_append.mp hx with z | z
        · exact hps x z
        · rw [List.mem_singleton.mp z]
          show 1 ≤ 1 + r ∧ 1 + r ≤ 6 ∧ 1 ≤ 1 + r' ∧ 1 + r' ≤ 12
          omega
    · rintro Hx ⟨bx, wx, vs, ps, ev, lv, lp, ov, hps⟩
      refine ⟨D, vs, rfl, .inl ⟨SqL.of ev, fun R hR => ?_⟩⟩
      have sR := same_upd (o := HO.tup vs) hR
      exact k _ (.tuple (ps.map prD)) _ (b01.trans (bx.trans (But.same' sR))) (wx.same sR) (.tup (hide_at1 upd_same (well_ne wx hR)) ((ov.same hide_one).same (same_hide _ sR))) ⟨ps, rfl, by omega, hps⟩
end
end KP

set_option Elab.async false
set_option maxRecDepth 100000
set_option maxHeartbeats 4000000
set_option linter.all false
/-! Ours: drawn hours. -/
namespace KP
open PySem PySem.Spec PyProof.Rows L2 Gr GxR
theorem ixN_in {n : Nat} {r : Int} (h0 : 0 ≤ r) (h1 : r < n) : ixN n r = some r.toNat := by
  unfold ixN
  rw [if_pos h0, if_pos h1]
def hrsR : PyData → Prop := fun d => ∃ hs : List Int, d = .tuple (hs.map PyData.int) ∧ 0 < hs.length ∧ hs.length ≤ 12 ∧ (∀ h ∈ hs, 0 ≤ h ∧ h ≤ 1) ∧ ∃ j : Nat, ∃ h : j < hs.length, hs[j] = 1
def spSomeHrs : Sp := fun vs H Q _ => ∃ (p : Addr) (tp : Int), vs = [.ref p, .int tp] ∧ Well H p ∧ 0 < tp ∧ tp ≤ 12 ∧ Drawn H p hrsR Q
section
variable {P : Program} {w : World} {K : PySem.W.Frag} {mg : Str → Option Value} {base : Heap}
theorem sc_shrs : FnScope ["_law_well_here", "_law_top", "_law_row", "_law_turn"] ["_law_well_here", "_law_top"] (defScope s_l_some_hours) := ⟨rfl, rfl, rfl, by decide +kernel, rfl, by decide +kernel, by decide +kernel⟩
theorem ok_shrs (T : D K mg) : FnOk P w K mg base CX0 3 T.f_l_some_hours T.d_l_some_hours ["_law_well_here", "_law_top"] spSomeHrs := by
  refine T.U_l_some_hours.ok sc_shrs (fun vs H Q E h => ?_) (fun cdv A outer s H vs Q E hr h => ?_)
  · obtain ⟨p, tp, rfl, _⟩ := h
    rfl
  · obtain ⟨p, tp, rfl, hp, t0, t1, k⟩ := h
    have nd := sc_shrs.nd
    have mz : 5000 ≤ sizeLine := by decide
    refine ⟨_, pss_cons (ps_setLc (i := 2) (own := [("_law_turn", 3)]) (g := gName 3) (tt := tYes) rfl nd rfl rfl (sw_true rfl rfl rfl (by decide +kernel)) (pi_range1 rfl T.range (pa_cons (pe_op op_add pe_int (pe_call (ok_l_pick T) (hr.mono (by decide)) rfl T.g_l_pick T.U_l_pick.kp T.b_l_pick .nil pass0 (pa_cons (pv 0) (pa_cons (pv 1) pa_nil)))) pa_nil)) (blkOk_by (N := ["_law_well_here", "_law_top", "_law_row", "_law_turn"]) (sc := defScope s_l_some_hours) (by decide +kernel)) (fun _ _ _ _ _ => pg_name (i := 3) nd rfl (.inl rfl)) (fun _ _ _ _ _ => pts_nil) (fun _ _ _ _ _ => pe_call (ok_l_one T) hr rfl T.g_l_one T.U_l_one.kp T.b_l_one .nil pass0 (pa_cons (pv 0) (pa_cons (pe_lst (pa_cons pe_int (pa_cons pe_int (pa_cons pe_int pa_nil)))) pa_nil))))
      (pss_cons (ps_asg pe_int (pg_sub (pv 2) (pe_call (ok_l_pick T) (hr.mono (by decide)) rfl T.g_l_pick T.U_l_pick.kp T.b_l_pick .nil pass0 (pa_cons (pv 0) (pa_cons (pe_callB call_len_seq (by rfl) T.len PySem.boot_len (pa_cons (pv 2) pa_nil)) pa_nil))) set_list))
      (pss_one (ps_ret (pe_callTy call_tuple_of (by rfl) T.tuple (by decide +kernel) (pa_cons (pv 2) pa_nil))))), ?_⟩
    refine ⟨_, rfl, _, rfl, p, tp, rfl, hp, t0, by omega, fun n H1 n0 n1 w1 b1 => ⟨_, _, rfl, rfl, ?_⟩⟩
    refine ⟨_, rfl, by omega, by omega, fun D hD => lc_range (fun i Hx => But H1 Hx p ∧ Well Hx p ∧ ∃ ns : List Int, Hx D = some (.lst (ns.map V.int)) ∧ ns.length = i ∧ ∀ h ∈ ns, 0 ≤ h ∧ h ≤ 1)
      ⟨But.same' (same_upd hD), w1.same (same_upd hD), [], upd_same, rfl, fun _ h => nomatch h⟩ ?_ ?_⟩
    · rintro i Hx hi ⟨bx, wx, ns, ev, lv, nv⟩
      have nDp := well_ne w1 hD
      refine ⟨rfl, ?_⟩
      unfold tYes
      dsimp only
      rw [if_pos rfl]
      refine ⟨_, rfl, by show 3 ≤ sizeLine; omega, fun q hq => ?_⟩
      have sq := same_upd (o := HO.lst [V.int 1, V.int 1, V.int 0]) hq
      refine ⟨p, q, _, rfl, wx.same sq, upd_same, well_ne wx hq, by decide, by decide, fun j v H3 hv w3 b3 => ?_⟩
      obtain ⟨m, rfl, hm01⟩ : ∃ m : Int, v = .int m ∧ 0 ≤ m ∧ m ≤ 1 := by
        have hm := List.mem_of_getElem? hv
        simp only [List.mem_cons, List.not_mem_nil, or_false] at hm
        rcases hm with rfl | rfl | rfl <;> exact ⟨_, rfl, by decide, by decide⟩
      have bq := (But.same' sq).trans b3
      exact ⟨_, bq _ _ ev nDp, by rw [List.length_map]; omega, (bx.trans bq).put hD, w3.put nDp, ns ++ [m], by rw [upd_same, List.map_append]; rfl, by rw [List.length_append, lv]; rfl, fun h hh => by
        rcases List.mem_append.mp hh with q | q
        · exact nv h q
        · rw [List.mem_singleton.mp q]; exact hm01⟩
    · rintro Hx ⟨bx, wx, ns, ev, lv, nv⟩
      have nDp := well_ne w1 hD
      refine gn ?_
      dsimp only
      refine ⟨_, rfl, _, rfl, _, rfl, D, _, rfl, .inl (SqL.of ev), p, _, rfl, wx, by rw [List.length_map]; omega, by rw [List.length_map]; omega, fun r H3 r0 r1 w3 b3 => ?_⟩
      rw [List.length_map] at r1
      have e3 := b3 _ _ ev nDp
      refine ⟨D, _, r, r.toNat, rfl, rfl, e3, ixN_in r0 (by rw [List.length_map]; omega), ?_⟩
      refine ⟨_, rfl, D, _, rfl, .inl ⟨SqL.of upd_same, fun R hR => ?_⟩⟩
      have e5 : (ns.map V.int).set r.toNat (.int 1) = (ns.set r.toNat 1).map V.int := by rw [List.map_set]
      rw [e5] at hR ⊢
      have wD : Well (upd H3 D (.lst ((ns.set r.toNat 1).map V.int))) p := w3.put nDp
      have sR := same_upd (o := HO.tup ((ns.set r.toNat 1).map V.int)) hR
      refine k _ (.tuple ((ns.set r.toNat 1).map PyData.int)) _ (b1.trans (((bx.trans b3).put hD).trans (But.same' sR))) (wD.same sR) (.tup (hide_at1 upd_same (well_ne wD hR)) (ints_od _)) ⟨_, rfl, by rw [List.length_set]; omega, by rw [List.length_set]; omega, fun h hh => ?_, r.toNat, by rw [List.length_set]; omega, List.getElem_set_self _⟩
      rcases List.mem_or_eq_of_mem_set hh with q | q
      · exact nv h q
      · rw [q]; exact ⟨by decide, by decide⟩
end
end KP

set_option Elab.async false
set_option maxRecDepth 100000
set_option maxHeartbeats 4000000
set_option linter.all false
/-! Ours: a drawn row of polite asks. -/
namespace KP
open PySem PySem.Spec PyProof.Rows L2 Gr GxR
theorem asc_snoc : ∀ {l : List Int} {m t : Int}, asc m l → (∀ x ∈ l, x ≤ t) → m ≤ t → asc m (l ++ [t])
  | [], m, t, _, _, h => ⟨h, trivial⟩
  | n :: l, m, t, a, h, _ => ⟨a.1, asc_snoc a.2 (fun x hx => h x (List.mem_cons_of_mem _ hx)) (h n List.mem_cons_self)⟩
theorem le_last {ns : List Int} {t : Int} (hs : Srt ns) (h : ∀ x, atI ns (-1) = some x → x ≤ t) : ∀ x ∈ ns, x ≤ t := fun x hx => by
  obtain ⟨i, hi, rfl⟩ := List.getElem_of_mem hx
  have e : atI ns (-1) = some ns[ns.length - 1] := by
    unfold atI ixN
    rw [if_neg (by omega), if_pos (by omega)]
    show ns[(-1 + ((ns.length : Nat) : Int)).toNat]? = _
    rw [show (-1 + ((ns.length : Nat) : Int)).toNat = ns.length - 1 by omega]
    exact List.getElem?_eq_getElem (by omega)
  have := h _ e
  have := hs i (ns.length - 1) hi (by omega) (by omega)
  omega
def Polite (ps : List (Int × Int)) (hs ns : List Int) : Prop := ∀ j, j < ns.length → politeAt ps hs ns j = true
theorem polite_snoc {ps : List (Int × Int)} {hs ns : List Int} {t : Int} (h : Polite ps hs ns) (ho : openI hs t = true) (ha : ps.all (apI ns t) = true) : Polite ps hs (ns ++ [t]) := fun j hj => by
  rw [List.length_append] at hj
  have hj : j < ns.length + 1 := hj
  by_cases z : j < ns.length
  · have := h j z
    unfold politeAt at this ⊢
    rw [List.getD_eq_getElem?_getD] at this ⊢
    rw [List.getElem?_append_left z, List.take_append_of_le_length (by omega)]
    exact this
  · have e : j = ns.length := by omega
    subst e
    unfold politeAt
    rw [List.getD_eq_getElem?_getD, List.getElem?_append_right (Nat.le_refl _), Nat.sub_self, List.take_left]
    show (openI hs t && ps.all (apI ns t)) = true
    rw [ho, ha]
    rfl
def rowR (ps : List (Int × Int)) (hs : List Int) (n : Nat) : PyData → Prop := fun d => ∃ ns : List Int, d = .tuple (ns.map PyData.int) ∧ asc 0 ns ∧ ns.length = n ∧ Polite ps hs ns ∧ ∀ x ∈ ns, x ≤ 1100 * ((ns.length : Nat) : Int)
def spSomeRow : Sp := fun vs H Q _ => ∃ (p : Addr) (lv hv : V) (ps : List (Int × Int)) (hs : List Int) (n tp : Int), vs = [.ref p, lv, hv, .int n, .int tp] ∧ Well H p ∧ Od (hide H [p]) lv (.tuple ((ps.map inD).map tw)) ∧ (∀ p ∈ ps, 1 ≤ p.1 ∧ 1 ≤ p.2 ∧ p.2 ≤ 12) ∧ Od (hide H [p]) hv (.tuple (hs.map PyData.int)) ∧ hs.length ≤ 12 ∧ (∃ j : Nat, ∃ h : j < hs.length, hs[j] = 1) ∧ 0 ≤ n ∧ n ≤ 100 ∧ 0 ≤ tp ∧ tp ≤ 1000 ∧ Drawn H p (rowR ps hs n.toNat) Q
section
variable {P : Program} {w : World} {K : PySem.W.Frag} {mg : Str → Option Value} {base : Heap}
end
end KP

set_option Elab.async false
set_option maxRecDepth 100000
set_option linter.all false
/-! Ours: the first wrong ask: other orders, cuts, one more, shifts. -/
namespace KP
open PySem PySem.Spec PyProof.Rows L2 Gr GxR
theorem first_some {ps : List (Int × Int)} {hs ns : List Int} {i : Nat} (h : firstI ps hs ns = some i) : i < ns.length ∧ politeAt ps hs ns i = false ∧ ∀ j, j < i → politeAt ps hs ns j = true := by
  unfold firstI at h
  rw [List.find?_range_eq_some] at h
  obtain ⟨h1, h2, h3⟩ := h
  refine ⟨List.mem_range.mp h2, by cases e : politeAt ps hs ns i <;> simp_all, fun j hj => ?_⟩
  have := h3 j hj
  cases e : politeAt ps hs ns j <;> simp_all
theorem first_no {ps : List (Int × Int)} {hs ns : List Int} (h : firstI ps hs ns = none) : Polite ps hs ns := fun j hj => by
  unfold firstI at h
  rw [List.find?_eq_none] at h
  have := h j (List.mem_range.mpr hj)
  cases e : politeAt ps hs ns j <;> simp_all
/-- rows that are wrong at the same places have one first wrong place -/
theorem first_congr {ps ps' : List (Int × Int)} {hs hs' ns ns' : List Int} (hl : ns.length = ns'.length) (h : ∀ j, j < ns.length → politeAt ps hs ns j = politeAt ps' hs' ns' j) : firstI ps hs ns = firstI ps' hs' ns' := by
  cases e : firstI ps' hs' ns' with
  | none =>
    have q := first_no e
    exact first_none fun j hj => by rw [h j hj]; exact q j (by omega)
  | some i =>
    obtain ⟨h1, h2, h3⟩ := first_some e
    exact first_at (by omega) (fun j hj => by rw [h j (by omega)]; exact h3 j hj) (by rw [h i (by omega)]; exact h2)
theorem first_rev (ps : List (Int × Int)) (hs ns : List Int) : firstI ps.reverse hs ns = firstI ps hs ns :=
  first_congr rfl fun j _ => by unfold politeAt; rw [List.all_reverse]
theorem polite_take {ps : List (Int × Int)} {hs ns : List Int} {m j : Nat} (hj : j < m) (hl : j < ns.length) : politeAt ps hs (ns.take m) j = politeAt ps hs ns j := by
  unfold politeAt
  have e : (ns.take m).getD j 0 = ns.getD j 0 := by
    rw [List.getD_eq_getElem?_getD, List.getD_eq_getElem?_getD, List.getElem?_take_of_lt hj]
  rw [e, List.take_take, Nat.min_eq_left (by omega)]
theorem first_take {ps : List (Int × Int)} {hs ns : List Int} {m : Nat} (hm : m ≤ ns.length) : firstI ps hs (ns.take m) = (match firstI ps hs ns with
    | some i => if i < m then some i else none
    | none => none) := by
  have hl : (ns.take m).length = m := by rw [List.length_take]; omega
  cases e : firstI ps hs ns with
  | none =>
    have q := first_no e
    exact first_none fun j hj => by
      rw [hl] at hj
      rw [polite_take hj (by omega)]
      exact q j (by omega)
  | some i =>
    obtain ⟨h1, h2, h3⟩ := first_some e
    show _ = if i < m then some i else none
    by_cases z : i < m
    · rw [if_pos z]
      exact first_at (by omega) (fun j hj => by rw [polite_take (by omega) (by omega)]; exact h3 j hj) (by rw [polite_take z h1]; exact h2)
    · rw [if_neg z]
      exact first_none fun j hj => by
        rw [hl] at hj
        rw [polite_take hj (by omega)]
        exact h3 j (by omega)
theorem first_snoc {ps : List (Int × Int)} {hs ns : List Int} {t : Int} (h : firstI ps hs ns = none) : (firstI ps hs (ns ++ [t])).isNone = (openI hs t && ps.all (apI ns t)) := by
  have q := first_no h
  have el : politeAt ps hs (ns ++ [t]) ns.length = (openI hs t && ps.all (apI ns t)) := by
    unfold politeAt
    rw [List.getD_eq_getElem?_getD, List.getElem?_append_right (Nat.le_refl _), Nat.sub_self, List.take_left]
    rfl
  have eb : ∀ j, j < ns.length → politeAt ps hs (ns ++ [t]) j = true := fun j hj => by
    have := polite_take (ps := ps) (hs := hs) (ns := ns ++ [t]) (m := ns.length) hj (by rw [List.length_append]; omega)
    rw [List.take_left] at this
    rw [← this]
    exact q j hj
  cases hb : (openI hs t && ps.all (apI ns t)) with
  | true =>
    rw [first_none fun j hj => ?_]
    · rfl
    · rw [List.length_append] at hj
      have hj : j < ns.length + 1 := hj
      by_cases z : j < ns.length
      · exact eb j z
      · rw [show j = ns.length by omega, el, hb]
  | false =>
    rw [first_at (i := ns.length) (by rw [List.length_append]; show _ < _ + 1; omega) eb (by rw [el, hb])]
    rfl
theorem open_shift (hs : List Int) (t k : Int) : openI hs (t + k * ((hs.length : Nat) : Int)) = openI hs t := by
  unfold openI
  rw [Int.add_mul_emod_self_right]
theorem open_twice (hs : List Int) (h0 : 0 < hs.length) (t : Int) : openI (hs ++ hs) t = openI hs t := by
  unfold openI
  have a := Int.emod_nonneg t (b := ((hs.length : Nat) : Int)) (by omega)
  have b := Int.emod_lt_of_pos t (b := ((hs.length : Nat) : Int)) (by omega)
  have c := Int.emod_nonneg t (b := (((hs ++ hs).length : Nat) : Int)) (by rw [List.length_append]; omega)
  have d := Int.emod_lt_of_pos t (b := (((hs ++ hs).length : Nat) : Int)) (by rw [List.length_append]; omega)
  have e : (t % (((hs ++ hs).length : Nat) : Int)) % ((hs.length : Nat) : Int) = t % ((hs.length : Nat) : Int) :=
    Int.emod_emod_of_dvd t (by rw [List.length_append, Int.natCast_add]; exact ⟨2, by omega⟩)
  rw [List.length_append] at d
  by_cases z : t % (((hs ++ hs).length : Nat) : Int) < ((hs.length : Nat) : Int)
  · rw [Int.emod_eq_of_lt c z] at e
    rw [e, List.getElem?_append_left (by omega)]
  · have e2 : t % (((hs ++ hs).length : Nat) : Int) - ((hs.length : Nat) : Int) = t % ((hs.length : Nat) : Int) := by
      rw [← e]
      have : (t % (((hs ++ hs).length : Nat) : Int)) % ((hs.length : Nat) : Int) = (t % (((hs ++ hs).length : Nat) : Int) - ((hs.length : Nat) : Int)) % ((hs.length : Nat) : Int) := by
        rw [Int.sub_emod_right]
      rw [this]
      exact (Int.emod_eq_of_lt (by omega) (by rw [List.length_append] at *; omega)).symm
    rw [List.getElem?_append_right (by omega)]
    congr 2
    omega
theorem atI_shift (c : Int) (ns : List Int) (i : Int) : atI (ns.map (· + c)) i = (atI ns i).map (· + c) := by
  unfold atI
  rw [List.length_map]
  cases ixN ns.length i with
  | none => rfl
  | some j =>
    show (ns.map (· + c))[j]? = (ns[j]?).map (· + c)
    rw [List.getElem?_map]
theorem ap_shift (c : Int) (ns : List Int) (t : Int) (q : Int × Int) : apI (ns.map (· + c)) (t + c) q = apI ns t q := by
  unfold apI
  rw [List.length_map, atI_shift]
  cases atI ns (-q.1) with
  | none => rfl
  | some x =>
    show (_ || decide (q.2 ≤ t + c - (x + c))) = (_ || decide (q.2 ≤ t - x))
    rw [show t + c - (x + c) = t - x by omega]
end KP

set_option Elab.async false
set_option maxRecDepth 100000
set_option linter.all false
/-! Ours: right rules; shifted asks. -/
namespace KP
open PySem PySem.Spec PyProof.Rows L2 Gr GxR
structure Good (ps : List (Int × Int)) (hs : List Int) : Prop where
  l : ps.length ≤ 4
  p : ∀ p ∈ ps, 1 ≤ p.1 ∧ p.1 ≤ 6 ∧ 1 ≤ p.2 ∧ p.2 ≤ 12
  h0 : 0 < hs.length
  h1 : hs.length ≤ 12
  d : ∀ h ∈ hs, 0 ≤ h ∧ h ≤ 1
  one : ∃ j : Nat, ∃ h : j < hs.length, hs[j] = 1
theorem has_one : ∀ {hs : List Int}, (1 : Int) ∈ hs → hasOne 1 (hs.map PyData.int) = true
  | h :: l, m => by
    show ((h == 1) || hasOne 1 (l.map PyData.int)) = true
    rw [Bool.or_eq_true]
    rcases List.mem_cons.mp m with e | e
    · exact .inl (by rw [← e]; rfl)
    · exact .inr (has_one e)
theorem Good.hours {ps : List (Int × Int)} {hs : List Int} (g : Good ps hs) : hoursD (.tuple (hs.map PyData.int)) = true := by
  obtain ⟨j, hj, e⟩ := g.one
  have e1 : rowD (.tuple (hs.map PyData.int)) 1 12 = true := by
    show (decide ((1 : Int) ≤ ((hs.map PyData.int).length : Nat)) && decide ((((hs.map PyData.int).length : Nat) : Int) ≤ 12)) = true
    have := g.h0
    have := g.h1
    rw [List.length_map, Bool.and_eq_true, decide_eq_true_eq, decide_eq_true_eq]
    omega
  have e2 : (hs.map PyData.int).all (fun x => betwD x 0 1) = true := List.all_eq_true.mpr fun d hd => by
    obtain ⟨h, hh, rfl⟩ := List.mem_map.mp hd
    have := g.d h hh
    show (decide (0 ≤ h) && decide (h ≤ 1)) = true
    rw [Bool.and_eq_true, decide_eq_true_eq, decide_eq_true_eq]
    exact this
  have e3 : hasOne 1 (hs.map PyData.int) = true := has_one (e ▸ List.getElem_mem hj)
  unfold hoursD
  rw [e1, Bool.true_and]
  show ((hs.map PyData.int).all (fun x => betwD x 0 1) && hasOne 1 (hs.map PyData.int)) = true
  rw [e2, e3]
  rfl
theorem Good.rules {ps : List (Int × Int)} {hs : List Int} (g : Good ps hs) : rulesD (rulesP ps hs) = true := by
  have e1 : rowD (.tuple ((ps.map inD).map tw)) 0 4 = true := by
    show (decide ((0 : Int) ≤ (((ps.map inD).map tw).length : Nat)) && decide (((((ps.map inD).map tw).length : Nat) : Int) ≤ 4)) = true
    have := g.l
    rw [List.length_map, List.length_map, Bool.and_eq_true, decide_eq_true_eq, decide_eq_true_eq]
    omega
  have e2 : ((ps.map inD).map tw).all limD = true := List.all_eq_true.mpr fun d hd => by
    obtain ⟨q, hq, rfl⟩ := List.mem_map.mp hd
    obtain ⟨p, hp, rfl⟩ := List.mem_map.mp hq
    have := g.p p hp
    show ((decide (1 ≤ p.1) && decide (p.1 ≤ 6)) && (decide (1 ≤ p.2) && decide (p.2 ≤ 12))) = true
    simp only [Bool.and_eq_true, decide_eq_true_eq]
    omega
  have e3 : limsD (.tuple ((ps.map inD).map tw)) = true := by
    unfold limsD
    rw [e1, Bool.true_and]
    exact e2
  show (limsD (.tuple ((ps.map inD).map tw)) && hoursD (.tuple (hs.map PyData.int))) = true
  rw [e3, g.hours]
  rfl
theorem Good.rev {ps : List (Int × Int)} {hs : List Int} (g : Good ps hs) : Good ps.reverse hs := ⟨by rw [List.length_reverse]; exact g.l, fun p hp => g.p p (List.mem_reverse.mp hp), g.h0, g.h1, g.d, g.one⟩
theorem Good.twice {ps : List (Int × Int)} {hs : List Int} (g : Good ps hs) (h : hs.length < 7) : Good ps (hs ++ hs) := ⟨g.l, g.p, by have := g.h0; rw [List.length_append]; omega, by rw [List.length_append]; omega, fun x hx => g.d x ((List.mem_append.mp hx).elim id id), by
  obtain ⟨j, hj, e⟩ := g.one
  exact ⟨j, by rw [List.length_append]; omega, by rw [List.getElem_append_left hj]; exact e⟩⟩
theorem Good.right {ps : List (Int × Int)} {hs ns : List Int} (g : Good ps hs) (a : asc 0 ns) (n : ns.length ≤ 200) : Right ps hs ns := ⟨g.rules, fun p hp => (g.p p hp).1, g.h0, a, n⟩
theorem asc_take : ∀ {l : List Int} {m : Int} (k : Nat), asc m l → asc m (l.take k)
  | [], m, k, _ => by rw [List.take_nil]; trivial
  | n :: l, m, 0, _ => trivial
  | n :: l, m, k + 1, h => ⟨h.1, asc_take k h.2⟩
theorem asc_mono : ∀ {l : List Int} {m u : Int}, asc m l → u ≤ m → asc u l
  | [], _, _, _, _ => trivial
  | n :: l, m, u, h, q => ⟨by have := h.1; omega, h.2⟩
theorem asc_shift (c : Int) : ∀ {l : List Int} {m : Int}, asc m l → asc (m + c) (l.map (· + c))
  | [], _, _ => trivial
  | n :: l, m, h => ⟨by have := h.1; show m + c ≤ n + c; omega, asc_shift c h.2⟩
theorem polite_shift (ps : List (Int × Int)) {hs hs' : List Int} (ns : List Int) (c : Int) (ho : ∀ t, openI hs' (t + c) = openI hs t) (j : Nat) (hj : j < ns.length) : politeAt ps hs' (ns.map (· + c)) j = politeAt ps hs ns j := by
  unfold politeAt
  have e : (ns.map (· + c)).getD j 0 = ns.getD j 0 + c := by
    rw [List.getD_eq_getElem?_getD, List.getD_eq_getElem?_getD, List.getElem?_map, List.getElem?_eq_getElem hj]
    rfl
  rw [e, ho, ← List.map_take]
  congr 2
  funext q
  exact ap_shift c _ _ q
theorem first_shift (ps : List (Int × Int)) {hs hs' : List Int} (ns : List Int) (c : Int) (ho : ∀ t, openI hs' (t + c) = openI hs t) : firstI ps hs' (ns.map (· + c)) = firstI ps hs ns :=
  first_congr (by rw [List.length_map]) fun j hj => polite_shift ps ns c ho j (by rw [List.length_map] at hj; exact hj)
theorem open_later {hs : List Int} (h0 : 0 < hs.length) (t : Int) : openI hs (t + 5 * ((hs.length : Nat) : Int)) = openI hs t ∧ openI (hs ++ hs) (t + 5 * ((hs.length : Nat) : Int)) = openI hs t :=
  ⟨open_shift hs t 5, by rw [open_twice hs h0, open_shift]⟩
end KP

set_option Elab.async false
set_option maxRecDepth 100000
set_option maxHeartbeats 4000000
set_option linter.all false
/-! Ours: soonest, of right arguments. -/
namespace KP
open PySem PySem.Spec PyProof.Rows L2 Gr GxR
def spCkB : Sp := fun vs H Q _ => ∃ t lo hi : Int, vs = [.int t, .int lo, .int hi] ∧ lo ≤ t ∧ t ≤ hi ∧ Q .non H
def spAmt : Sp := fun vs H Q _ => ∃ t : Int, vs = [.int t] ∧ 0 ≤ t ∧ t ≤ 100 ∧ Q .non H
def spSoonest (L : List Addr) : Sp := fun vs H Q _ => ∃ (rv av : V) (n st : Int) (ps : List (Int × Int)) (hs ns : List Int), vs = [rv, av, .int n, .int st] ∧ Od H rv (rulesP ps hs) ∧ Od H av (.tuple (ns.map PyData.int)) ∧ Good ps hs ∧ asc 0 ns ∧ ns.length ≤ 200 ∧ firstI ps hs ns = none ∧ 0 ≤ n ∧ n ≤ 100 ∧ 0 ≤ st ∧ Tb L H ∧ ∀ z ts H', UpL L H H' → IsI H' z ts → ts.length = n.toNat → SRow ps hs ns st ts → Q z H'
section
variable {P : Program} {w : World} {K : PySem.W.Frag} {mg : Str → Option Value} {base : Heap}
end
end KP

set_option Elab.async false
set_option maxRecDepth 100000
set_option linter.all false
/-! Ours: how many asks are below an end: the mathematics. -/
namespace KP
open PySem PySem.Spec PyProof.Rows L2 Gr GxR
/-- of the next asks behind nothing, from st on, n are below e -/
def Mst (ps : List (Int × Int)) (hs : List Int) (st e : Int) (n : Nat) : Prop := ∃ ts, SRow ps hs [] st ts ∧ ts.length = n ∧ (∀ t ∈ ts, t < e) ∧ ∀ t, IsNxt ps hs ts st t → e ≤ t
theorem srow_prefix {ps : List (Int × Int)} {hs ts us : List Int} {st : Int} (a : SRow ps hs [] st ts) (b : SRow ps hs [] st us) (h : ts.length ≤ us.length) : us.take ts.length = ts := by
  have := SRow.one a b ts.length (Nat.le_refl _) h
  rw [List.take_of_length_le (Nat.le_refl _)] at this
  exact this.symm
theorem mst_le {ps : List (Int × Int)} {hs : List Int} {st e : Int} {n m : Nat} (a : Mst ps hs st e n) (b : Mst ps hs st e m) : m ≤ n := by
  obtain ⟨ts, h1, h2, h3, h4⟩ := a
  obtain ⟨us, k1, k2, k3, k4⟩ := b
  by_cases z : m ≤ n
  · exact z
  · have p := srow_prefix h1 k1 (by omega)
    have nx := k1 ts.length (by omega)
    rw [p] at nx
    have := h4 _ nx
    have := k3 _ (List.getElem_mem (l := us) (n := ts.length) (by omega))
    omega
theorem Mst.one {ps : List (Int × Int)} {hs : List Int} {st e : Int} {n m : Nat} (a : Mst ps hs st e n) (b : Mst ps hs st e m) : n = m := Nat.le_antisymm (mst_le b a) (mst_le a b)
theorem least_nat {P : Nat → Prop} : ∀ n, P n → ∃ m, P m ∧ ∀ k, k < m → ¬ P k := fun n h => by
  induction n using Nat.strongRecOn with
  | ind n ih =>
    by_cases z : ∃ k, k < n ∧ P k
    · obtain ⟨k, hk, pk⟩ := z
      exact ih k hk pk
    · exact ⟨n, h, fun k hk pk => z ⟨k, hk, pk⟩⟩
theorem nxt_some {ps : List (Int × Int)} {hs rs : List Int} {st : Int} (hp : ∀ p ∈ ps, 1 ≤ p.1) (ho : ∃ j : Nat, ∃ h : j < hs.length, hs[j] = 1) : ∃ t, IsNxt ps hs rs st t := by
  obtain ⟨j, hj, e⟩ := ho
  -- a moment behind all
  have big : ∃ M : Int, st ≤ M ∧ (∀ x ∈ rs, x ≤ M) := by
    refine ⟨rs.foldl max st, ?_, ?_⟩
    · clear hp e
      induction rs generalizing st with
      | nil => exact Int.le_refl _
      | cons a l ih => exact Int.le_trans (Int.le_max_left st a) (ih (st := max st a))
    · clear hp e
      intro x hx
      have h1 : ∀ (l : List Int) (s : Int), s ≤ l.foldl max s := fun l => by
        induction l with
        | nil => exact fun s => Int.le_refl _
        | cons a l ih => exact fun s => Int.le_trans (Int.le_max_left s a) (ih (max s a))
      induction rs generalizing st with
      | nil => cases hx
      | cons a l ih =>
        rcases List.mem_cons.mp hx with e | e
        · rw [e]
          exact Int.le_trans (Int.le_max_right st a) (h1 l (max st a))
        · exact ih (st := max st a) e
  obtain ⟨M, hM1, hM2⟩ := big
  have bigw : ∃ W : Int, 0 ≤ W ∧ ∀ p ∈ ps, p.2 ≤ W := by
    clear hp e
    induction ps with
    | nil => exact ⟨0, Int.le_refl _, fun _ h => nomatch h⟩
    | cons a l ih =>
      obtain ⟨W, h0, hW⟩ := ih
      refine ⟨max W a.2, Int.le_trans h0 (Int.le_max_left _ _), fun p h => ?_⟩
      rcases List.mem_cons.mp h with e | e
      · rw [e]; exact Int.le_max_right _ _
      · exact Int.le_trans (hW p e) (Int.le_max_left _ _)
  obtain ⟨W, hW0, hW⟩ := bigw
  obtain ⟨s, hs1, hs2⟩ := open_soon hj e (M + W)
  let P : Nat → Prop := fun k => Past rs st (st + (k : Int)) ∧ openI hs (st + (k : Int)) = true ∧ ps.all (apI rs (st + (k : Int))) = true
  have h1 : P (M + W + (s : Int) - st).toNat := by
    have e2 : st + (((M + W + (s : Int) - st).toNat : Nat) : Int) = M + W + (s : Int) := by omega
    show Past rs st (st + (((M + W + (s : Int) - st).toNat : Nat) : Int)) ∧ _ ∧ _
    rw [e2]
    refine ⟨⟨by omega, fun x hx => ?_⟩, hs2, List.all_eq_true.mpr fun q hq => ?_⟩
    · obtain ⟨h0, rfl⟩ := last_some hx
      have := hM2 _ (List.getElem_mem (l := rs) (n := rs.length - 1) (by omega))
      omega
    · have hq1 := hp q hq
      have hq2 := hW q hq
      unfold apI
      by_cases z : ((rs.length : Nat) : Int) < q.1
      · rw [decide_eq_true z, Bool.true_or]
      · rw [back_at hq1 (by omega)]
        have := hM2 _ (List.getElem_mem (l := rs) (n := rs.length - q.1.toNat) (by omega))
        rw [Bool.or_eq_true]
        exact .inr (decide_eq_true (by omega))
  obtain ⟨m, ⟨a, b, c⟩, hm⟩ := least_nat _ h1
  refine ⟨_, a, b, c, fun u pu ou au => ?_⟩
  by_cases z : st + (m : Int) ≤ u
  · exact z
  · have := pu.1
    have e2 : st + (((u - st).toNat : Nat) : Int) = u := by omega
    exact absurd (show P (u - st).toNat from by
      show Past rs st (st + (((u - st).toNat : Nat) : Int)) ∧ _ ∧ _
      rw [e2]
      exact ⟨pu, ou, au⟩) (hm _ (by omega))
theorem row_srt {ps : List (Int × Int)} {hs ns ts : List Int} {st : Int} (sn : Srt ns) (sr : SRow ps hs ns st ts) : ∀ i, i ≤ ts.length → Srt (ns ++ ts.take i)
  | 0, _ => by rw [List.take_zero, List.append_nil]; exact sn
  | i + 1, hi => by
    have a := row_srt sn sr i (by omega)
    have n := sr i (by omega)
    have e : ts.take (i + 1) = ts.take i ++ [ts[i]] := by rw [List.take_add_one, List.getElem?_eq_getElem (by omega)]; rfl
    rw [e, ← List.append_assoc]
    exact snoc_srt a n.past
theorem srt_nil : Srt [] := fun i _ h => absurd h (Nat.not_lt_zero i)
theorem row_srt0 {ps : List (Int × Int)} {hs ts : List Int} {st : Int} (sr : SRow ps hs [] st ts) : Srt ts := by
  have := row_srt srt_nil sr ts.length (Nat.le_refl _)
  rw [List.nil_append, List.take_of_length_le (Nat.le_refl _)] at this
  exact this
theorem row_from {ps : List (Int × Int)} {hs ts : List Int} {st : Int} (sr : SRow ps hs [] st ts) : ∀ x ∈ ts, st ≤ x := fun x hx => by
  obtain ⟨i, hi, rfl⟩ := List.getElem_of_mem hx
  exact (sr i hi).past.1
/-- such a row's asks below e are its first ones -/
theorem below_count {ps : List (Int × Int)} {hs ts : List Int} {st e : Int} {n : Nat} (sr : SRow ps hs [] st ts) (m : Mst ps hs st e n) (h : n ≤ ts.length) : (ts.filter fun t => decide (t < e)).length = n := by
  obtain ⟨us, k1, k2, k3, k4⟩ := m
  have p := srow_prefix k1 sr (by omega)
  rw [k2] at p
  have sp := row_srt0 sr
  have e1 : ts = ts.take n ++ ts.drop n := (List.take_append_drop n ts).symm
  rw [e1, List.filter_append, p]
  rw [List.filter_eq_self.mpr (fun t ht => decide_eq_true (k3 t ht))]
  have e2 : (ts.drop n).filter (fun t => decide (t < e)) = [] := by
    refine List.filter_eq_nil_iff.mpr fun t ht => ?_
    obtain ⟨i, hi, rfl⟩ := List.getElem_of_mem ht
    rw [List.length_drop] at hi
    rw [List.getElem_drop]
    have nx := sr n (by omega)
    rw [List.nil_append, p] at nx
    have := k4 _ nx
    have := sp n (n + i) (by omega) (by omega) (by omega)
    simp only [decide_eq_true_eq]
    omega
  rw [e2, List.append_nil, k2]
/-- a row grows by each pair's W with each K of them -/
theorem row_grow {ps : List (Int × Int)} {hs ts : List Int} {st : Int} {p : Int × Int} (hp : p ∈ ps) {K : Nat} (hK : 1 ≤ p.1 ∧ p.1 ≤ (K : Int)) {W : Int} (hW : W ≤ p.2) (hW0 : 0 ≤ W) (sr : SRow ps hs [] st ts) : ∀ (q i : Nat) (hi : i < ts.length), K * q ≤ i → st + W * (q : Int) ≤ ts[i]
  | 0, i, hi, _ => by
    have := (sr i hi).past.1
    simpa using this
  | q + 1, i, hi, h => by
    have sp := row_srt0 sr
    have e0 : K * (q + 1) = K * q + K := Nat.mul_succ K q
    have ih := row_grow hp hK hW hW0 sr q (i - K) (by omega) (by omega)
    have a := List.all_eq_true.mp (sr i hi).all p hp
    rw [List.nil_append] at a
    unfold apI at a
    have hl : (ts.take i).length = i := by rw [List.length_take]; omega
    rw [hl, decide_eq_false (by omega), Bool.false_or, back_at hK.1 (by rw [hl]; omega)] at a
    have a := of_decide_eq_true a
    rw [List.getElem_take] at a
    have b := sp (i - K) ((ts.take i).length - p.1.toNat) (by omega) (by rw [hl]; omega) (by rw [hl]; omega)
    have e1 : W * ((q + 1 : Nat) : Int) = W * (q : Int) + W := by
      rw [Int.natCast_add, Int.mul_add]
      simp
    omega
/-- what lets one more ask behind later ones lets it behind sooner ones -/
theorem lead_nxt {ps : List (Int × Int)} {hs us rs : List Int} {st t u : Int} (hp : ∀ p ∈ ps, 1 ≤ p.1) (n : IsNxt ps hs us st t) (hl : us.length = rs.length) (hle : ∀ (i : Nat) (h : i < us.length), us[i] ≤ rs[i]'(hl ▸ h)) (h1 : st ≤ u) (h2 : ∀ x ∈ rs, x ≤ u) (ho : openI hs u = true) (ha : ps.all (apI rs u) = true) : t ≤ u := by
  refine n.least u ⟨h1, fun x hx => ?_⟩ ho (List.all_eq_true.mpr fun q hq => ap_sooner (hp q hq) hl hle (List.all_eq_true.mp ha q hq))
  obtain ⟨h0, rfl⟩ := last_some hx
  have a := hle (us.length - 1) (by omega)
  have b := h2 _ (List.getElem_mem (l := rs) (n := us.length - 1) (by omega))
  omega
end KP

set_option Elab.async false
set_option maxRecDepth 100000
set_option maxHeartbeats 4000000
set_option linter.all false
/-! Ours: hours that may stand in the written part; how many asks there are at most. -/
namespace KP
open PySem PySem.Spec PyProof.Rows L2 Gr GxR
/-- hours, laid or written -/
def HrsV (K : PySem.W.Frag) (H : Hp) (v : V) (hs : List Int) : Prop := ∃ a, v = .ref a ∧ SqT K H a (hs.map V.int)
theorem hrsV_same {K : PySem.W.Frag} {H H' : Hp} {v : V} {hs : List Int} (s : Same H H') (h : HrsV K H v hs) : HrsV K H' v hs := let ⟨a, e, q⟩ := h; ⟨a, e, sqt_same s q⟩
theorem hrsV_of {K : PySem.W.Frag} {H : Hp} {v : V} {hs : List Int} (h : Od H v (.tuple (hs.map PyData.int))) : HrsV K H v hs := by
  obtain ⟨a, rfl, e⟩ := od_I h
  exact ⟨a, rfl, SqT.of e⟩
/-- rules: a pair of limits and hours -/
def RulV (K : PySem.W.Frag) (H : Hp) (v : V) (ps : List (Int × Int)) (hs : List Int) : Prop := ∃ a lv hv, v = .ref a ∧ H a = some (.tup [lv, hv]) ∧ Od H lv (.tuple ((ps.map inD).map tw)) ∧ HrsV K H hv hs
theorem rulV_same {K : PySem.W.Frag} {H H' : Hp} {v : V} {ps : List (Int × Int)} {hs : List Int} (s : Same H H') (h : RulV K H v ps hs) : RulV K H' v ps hs := let ⟨a, lv, hv, e, q, x, y⟩ := h; ⟨a, lv, hv, e, s _ _ q, x.same s, hrsV_same s y⟩
theorem rulV_of {K : PySem.W.Frag} {H : Hp} {v : V} {ps : List (Int × Int)} {hs : List Int} (h : Od H v (rulesP ps hs)) : RulV K H v ps hs := by
  obtain ⟨a, xs, rfl, e, o⟩ := od_tup h
  match xs, o with
  | [lv, hv], .cons oL (.cons oH .nil) => exact ⟨a, lv, hv, rfl, e, oL, hrsV_of oH⟩
def spOpensK (K : PySem.W.Frag) : Sp := fun vs H Q _ => ∃ (hv : V) (hs : List Int) (t : Int), vs = [hv, .int t] ∧ HrsV K H hv hs ∧ 0 < hs.length ∧ Q (.bl (openI hs t)) H
def spNOpenK (K : PySem.W.Frag) : Sp := fun vs H Q _ => ∃ (hv : V) (hs : List Int) (t : Int), vs = [hv, .int t] ∧ HrsV K H hv hs ∧ (∃ j : Nat, ∃ h : j < hs.length, hs[j] = 1) ∧ ∀ u, openI hs u = true → t ≤ u → (∀ v, t ≤ v → openI hs v = true → u ≤ v) → Q (.int u) H
def spNextK (K : PySem.W.Frag) : Sp := fun vs H Q _ => ∃ (rv : V) (r : Addr) (st : Int) (ps : List (Int × Int)) (hs rs : List Int), vs = [rv, .ref r, .int st] ∧ RulV K H rv ps hs ∧ ps.length ≤ 8 ∧ (∀ p ∈ ps, 1 ≤ p.1) ∧ (∃ j : Nat, ∃ h : j < hs.length, hs[j] = 1) ∧ H r = some (.lst (rs.map V.int)) ∧ rs.length ≤ 4000 ∧ ∀ t H', IsNxt ps hs rs st t → Same H H' → Q (.int t) H'
section
variable {P : Program} {w : World} {K : PySem.W.Frag} {mg : Str → Option Value} {base : Heap}
theorem sc_opensK : FnScope ["hours", "moment"] ["hours", "moment"] (defScope s_opens) := ⟨rfl, rfl, rfl, by decide +kernel, rfl, by decide +kernel, by decide +kernel⟩
theorem ok_opensK (T : D K mg) : FnOk P w K mg base CX0 1 T.f_opens T.d_opens ["hours", "moment"] (spOpensK K) := by
  refine T.U_opens.ok sc_opensK (fun vs H Q E h => ?_) (fun cdv A outer s H vs Q E hr h => ?_)
  · obtain ⟨hv, hs, t, rfl, _⟩ := h
    rfl
  · obtain ⟨hv, hs, t, rfl, ho, h0, k⟩ := h
    have nd := sc_opensK.nd
    obtain ⟨a, rfl, ea⟩ := ho
    refine ⟨_, pss_one (ps_ret (pe_cmpR op_eq (pe_ix ix_tup (pv 0) (pe_op op_mod (pv 1) (pe_callB call_len_seq (by rfl) T.len PySem.boot_len (pa_cons (pv 0) pa_nil))) (fun _ _ => rfl)) pe_int (nomark _))), ?_⟩
    have hb := Int.emod_nonneg t (b := ((hs.length : Nat) : Int)) (by omega)
    have hc := Int.emod_lt_of_pos t (b := ((hs.length : Nat) : Int)) (by omega)
    have hj : (t % ((hs.length : Nat) : Int)).toNat < hs.length := by omega
    refine ⟨_, rfl, _, rfl, _, rfl, a, _, rfl, .inr ea, ?_⟩
    have ex : atI (hs.map V.int) (t % (((hs.map V.int).length : Nat) : Int)) = some (V.int hs[(t % ((hs.length : Nat) : Int)).toNat]) := by
      rw [List.length_map]
      obtain ⟨j, ej⟩ : ∃ j : Nat, t % ((hs.length : Nat) : Int) = (j : Int) := ⟨(t % ((hs.length : Nat) : Int)).toNat, by omega⟩
      have hj2 : j < hs.length := by omega
      refine (congrArg (atI (hs.map V.int)) ej).trans ((atI_nat (v := V.int hs[j]) ?_).trans ?_)
      · rw [List.getElem?_map, List.getElem?_eq_getElem hj2]
        rfl
      · congr 2
        congr 1
        omega
    refine ⟨_, _, rfl, rfl, by rw [List.length_map]; omega, a, _, _, _, rfl, rfl, ea, ex, rfl, ?_⟩
    have e : decide (V.int hs[(t % ((hs.length : Nat) : Int)).toNat] = V.int 1) = openI hs t := by
      unfold openI
      rw [List.getElem?_eq_getElem hj, Bool.eq_iff_iff]
      simp
    rw [e]
    exact k
theorem sc_nopenK : FnScope ["hours", "moment"] ["hours", "moment"] (defScope s_next_open) := ⟨rfl, rfl, rfl, by decide +kernel, rfl, by decide +kernel, by decide +kernel⟩
theorem ok_nopenK (T : D K mg) : FnOk P w K mg base CX0 2 T.f_next_open T.d_next_open ["hours", "moment"] (spNOpenK K) := by
  refine T.U_next_open.ok sc_nopenK (fun vs H Q E h => ?_) (fun cdv A outer s H vs Q E hr h => ?_)
  · obtain ⟨hv, hs, t, rfl, _⟩ := h
    rfl
  · obtain ⟨hv, hs, t, rfl, hH, ⟨j, hj, e1⟩, k⟩ := h
    have nd := sc_nopenK.nd
    refine ⟨_, pss_cons (ps_while PassesOwn.never (pt_not (pt_val (pe_call (ok_opensK T) hr rfl T.g_opens T.U_opens.kp T.b_opens .nil pass0 (pa_cons (pv 0) (pa_cons (pv 1) pa_nil)))))
        (pss_one (ps_aug (i := 1) nd rfl (.inl rfl) pe_int ip_add)))
      (pss_one (ps_ret (pv 1))), ?_⟩
    obtain ⟨s0, h1, h2⟩ := open_soon hj e1 t
    refine ⟨fun m σ H' => H' = H ∧ ∃ u : Int, σ = [some hv, some (.int u)] ∧ t ≤ u ∧ (∀ v, t ≤ v → openI hs v = true → u ≤ v) ∧ m = (t + (s0 : Int) - u).toNat, ⟨_, rfl, t, rfl, Int.le_refl _, fun v hv _ => hv, rfl⟩, ?_⟩
    rintro m σ H' ⟨rfl, u, rfl, tu, lu, rfl⟩
    refine ⟨_, rfl, _, rfl, hv, hs, u, rfl, hH, by omega, _, rfl, ?_⟩
    cases ho : openI hs u with
    | true => exact ⟨_, rfl, k u ho tu lu⟩
    | false =>
      have hlt : u < t + (s0 : Int) := by
        have := lu _ (by omega) h2
        by_cases z : u = t + (s0 : Int)
        · rw [z, h2] at ho; cases ho
        · omega
      refine ⟨fun σ' H2 => H2 = H' ∧ ∃ v : Int, σ' = [some hv, some (.int v)] ∧ t ≤ v ∧ (∀ x, t ≤ x → openI hs x = true → v ≤ x) ∧ v = u + 1, ?_, ?_⟩
      · rintro σ' H2 ⟨rfl, v, rfl, tv, lv, rfl⟩
        exact ⟨_, by omega, rfl, u + 1, rfl, tv, lv, rfl⟩
      · refine ⟨_, rfl, _, _, rfl, rfl, rfl, u + 1, rfl, by omega, fun x hx hox => ?_, rfl⟩
        have := lu x hx hox
        by_cases z : x = u
        · rw [z, ho] at hox; cases hox
        · omega
theorem sc_nextK : FnScope ["rules", "asks", "since", "limits", "hours", "bounds", "most", "wide"] ["rules", "asks", "since"] (defScope s_next_ask) := ⟨rfl, rfl, rfl, by decide +kernel, rfl, by decide +kernel, by decide +kernel⟩
theorem ok_nextK (T : D K mg) : FnOk P w K mg base CX0 3 T.f_next_ask T.d_next_ask ["rules", "asks", "since"] (spNextK K) := by
  refine T.U_next_ask.ok sc_nextK (fun vs H Q E h => ?_) (fun cdv A outer s H vs Q E hr h => ?_)
  · obtain ⟨rv, r, st, ps, hs, rs, rfl, _⟩ := h
    rfl
  · obtain ⟨rv, r, st, ps, hs, rs, rfl, hR, hl4, hp, ho, er, hrl, k⟩ := h
    have nd := sc_nextK.nd
    have mz : 5000 ≤ sizeLine := by decide
    refine ⟨_, pss_cons (ps_asg (pv 0) (pg_tup rfl (pgs_cons (pg_name (i := 3) nd rfl (.inl rfl)) (pgs_cons (pg_name (i := 4) nd rfl (.inl rfl)) pgs_nil))))
      (pss_cons (ps_setLc (i := 5) (own := [("most", 6), ("wide", 7)]) (g := gTup _ 2 (gCons (gName 6) (gCons (gName 7) gNil))) rfl nd rfl rfl (sw_true rfl rfl rfl (by decide +kernel)) (pi_tup (pv 3)) (blkOk_by (N := ["rules", "asks", "since", "limits", "hours", "bounds", "most", "wide"]) (sc := defScope s_next_ask) (by decide +kernel)) (fun _ _ _ _ _ => pg_tup rfl (pgs_cons (pg_name (i := 6) nd rfl (.inl rfl)) (pgs_cons (pg_name (i := 7) nd rfl (.inl rfl)) pgs_nil))) (fun _ _ _ _ _ => (pts_one (pt_cmpR op_ge (pe_callB call_len_seqB (by rfl) T.len PySem.boot_len (pa_cons (pv 1) pa_nil)) (pv 6) (nomark _)))) (fun _ _ _ _ _ => pe_op op_add (pe_ix ix_listB (pv 1) (pe_un un_neg (pv 6)) (fun _ _ => rfl)) (pv 7)))
      (pss_one (ps_ret (pe_call (ok_nopenK T) hr rfl T.g_next_open T.U_next_open.kp T.b_next_open .nil pass0 (pa_cons (pv 4) (pa_cons (pe_callB (cr_max rfl) (by rfl) T.max (by decide +kernel) (pa_cons (pe_op op_cat (pe_op op_cat (pv 5) (pe_callTy call_list_of (by rfl) T.list (by decide +kernel) (pa_cons (pe_slice sl_list (pv 1) (po_some (pe_un un_neg pe_int)) po_none) pa_nil))) (pe_lst (pa_cons (pv 2) pa_nil))) pa_nil)) pa_nil)))))), ?_⟩
    obtain ⟨ra, lv, hv, rfl, era, oL, oH⟩ := hR
    refine ⟨_, rfl, ra, _, rfl, SqT.of era, rfl, _, _, rfl, _, _, rfl, rfl, ?_⟩
    obtain ⟨la, ls, rfl, el, ol⟩ := od_tup oL
    have lls : ls.length = ps.length := by rw [ol.len, List.length_map, List.length_map]
    refine ⟨_, rfl, la, rfl, ⟨_, SqT.of el⟩, fun D hD => lc_tup (K := K) (a := la) (xs := ls) (fun i Hx => Same H Hx ∧ ∃ bs : List Int, Hx D = some (.lst (bs.map V.int)) ∧ bs.length ≤ i ∧ (∀ b ∈ bs, ∀ u, ps.all (apI rs u) = true → b ≤ u) ∧ (∀ j (hj : j < ps.length), j < i → ∀ u, (∀ b ∈ bs, b ≤ u) → apI rs u ps[j] = true)) ⟨same_upd hD, [], upd_same, Nat.le_refl _, (fun _ h => nomatch h), fun _ _ h => absurd h (Nat.not_lt_zero _)⟩ (fun i Hx _ q => SqT.of (q.1 _ _ el)) ?_ ?_⟩
    · rintro i x Hx hx ⟨sx, bs, eb, lb, b1, b2⟩
      obtain ⟨q, b, hpm, rfl, eb'⟩ := pair_at ol hx
      obtain ⟨hmp, hpe⟩ := List.getElem?_eq_some_iff.mp hpm
      have hpp := hp q (List.mem_of_getElem? hpm)
      have nDr := ne_of_none er hD
      refine ⟨b, _, rfl, SqT.of (sx _ _ eb'), rfl, _, _, rfl, _, _, rfl, rfl, rfl, ?_⟩
      refine ⟨_, rfl, r, _, rfl, .inl (SqL.of (sx _ _ er)), _, rfl, _, _, rfl, rfl, _, rfl, ?_⟩
      rw [List.length_map]
      refine ite2 (fun h => ?_) (fun h => ?_)
      · have h := of_decide_eq_true h
        obtain ⟨x, hxx⟩ := atI_some (ns := rs) hpp (by omega)
        refine ⟨_, rfl, _, rfl, _, rfl, r, _, _, V.int x, rfl, rfl, SqL.of (sx _ _ er), atI_mapV hxx, _, rfl, _, _, rfl, rfl, _, eb, by rw [List.length_map]; omega, same_into hD sx, bs ++ [x + q.2], by rw [upd_same, List.map_append]; rfl, by rw [List.length_append]; show _ + 1 ≤ _; omega, fun c hc u hu => ?_, fun j hj hji u hu => ?_⟩
        · rcases List.mem_append.mp hc with h1 | h1
          · exact b1 c h1 u hu
          · rw [List.mem_singleton.mp h1]
            have h2 := List.all_eq_true.mp hu q (List.mem_of_getElem? hpm)
            unfold apI at h2
            rw [hxx, decide_eq_false (by omega), Bool.false_or] at h2
            have h2 := of_decide_eq_true h2
            omega
        · by_cases z : j = i
          · subst z
            rw [hpe]
            have := hu (x + q.2) (List.mem_append_right _ (List.mem_singleton.mpr rfl))
            unfold apI
            rw [hxx, Bool.or_eq_true]
            exact .inr (decide_eq_true (by omega))
          · exact b2 j hj (by omega) u fun c hc => hu c (List.mem_append_left _ hc)
      · have h : ¬ q.1 ≤ ((rs.length : Nat) : Int) := fun z => h (decide_eq_true z)
        refine ⟨sx, bs, eb, by omega, b1, fun j hj hji u hu => ?_⟩
        by_cases z : j = i
        · subst z
          rw [hpe]
          unfold apI
          rw [decide_eq_true (show ((rs.length : Nat) : Int) < q.1 by omega), Bool.true_or]
        · exact b2 j hj (by omega) u hu
    · rintro Hx ⟨sx, bs, eb, lb, b1, b2⟩
      rw [lls] at lb b2
      refine gn ?_
      have erx := sx _ _ er
      refine ⟨_, rfl, _, rfl, _, rfl, 1, rfl, _, rfl, ?_⟩
      dsimp only [tNoPart]
      refine ⟨r, _, rfl, SqL.of erx, fun c1 hc1 => ?_⟩
      rw [cut_I]
      have lc : (cutI rs (some (-1)) none).length ≤ 4000 := by
        unfold cutI
        rw [List.length_take, List.length_drop]
        omega
      have sa := same_upd (o := HO.lst ((cutI rs (some (-1)) none).map V.int)) hc1
      refine ⟨c1, _, rfl, .inl (SqL.of upd_same), fun c2 hc2 => ?_⟩
      have sb := same_upd (o := HO.lst ((cutI rs (some (-1)) none).map V.int)) hc2
      refine ⟨D, c2, _, _, rfl, rfl, sb _ _ (sa _ _ eb), upd_same, by rw [List.length_map, List.length_map]; omega, fun c3 hc3 => ?_⟩
      have sc := same_upd (o := HO.lst (bs.map V.int ++ (cutI rs (some (-1)) none).map V.int)) hc3
      refine ⟨_, rfl, by show 1 ≤ sizeLine; omega, fun c4 hc4 => ?_⟩
      have sd := same_upd (o := HO.lst [V.int st]) hc4
      refine ⟨c3, c4, _, _, rfl, rfl, sd _ _ upd_same, upd_same, by rw [List.length_append, List.length_map, List.length_map]; show _ + 1 ≤ sizeLine; omega, fun c5 hc5 => ?_⟩
      have se := same_upd (o := HO.lst (bs.map V.int ++ (cutI rs (some (-1)) none).map V.int ++ [V.int st])) hc5
      refine ⟨c5, bs ++ cutI rs (some (-1)) none ++ [st], rfl, SqL.of (by rw [upd_same, List.map_append, List.map_append]; rfl), by rw [List.length_append]; exact Nat.succ_pos _, fun m hm hle => ?_⟩
      have s5 := sx.trans (sa.trans (sb.trans (sc.trans (sd.trans se))))
      refine ⟨hv, hs, m, rfl, hrsV_same s5 oH, ho, fun u hu mu lu => k u _ ⟨⟨?_, fun x hx => ?_⟩, hu, ?_, fun v pv ov av => lu v ?_ ov⟩ s5⟩
      · have := hle st (List.mem_append_right _ (List.mem_singleton.mpr rfl))
        omega
      · have := hle x (List.mem_append_left _ (List.mem_append_right _ (last_in hx)))
        omega
      · refine List.all_eq_true.mpr fun q hq => ?_
        obtain ⟨j, hj, rfl⟩ := List.getElem_of_mem hq
        exact b2 j hj hj u fun c hc => by
          have := hle c (List.mem_append_left _ (List.mem_append_left _ hc))
          omega
      · rcases List.mem_append.mp hm with h | h
        · rcases List.mem_append.mp h with h | h
          · exact b1 m h v av
          · have h0 : 0 < rs.length := by
              cases hz : rs with
              | nil => rw [hz] at h; cases h
              | cons a l => exact Nat.succ_pos _
            rw [cut_last h0] at h
            rw [List.mem_singleton.mp h]
            exact pv.2 _ (last_at h0)
        · rw [List.mem_singleton.mp h]
          exact pv.1
end
end KP

set_option Elab.async false
set_option maxRecDepth 100000
set_option maxHeartbeats 4000000
set_option linter.all false
/-! Ours: most_between, most_within. -/
namespace KP
open PySem PySem.Spec PyProof.Rows L2 Gr GxR
/-- what most_between answers -/
def MostV (ps : List (Int × Int)) (hs : List Int) (st e : Int) (v : V) : Prop :=
  (ps = [] ∧ ((v = .non ∧ ∃ u, st ≤ u ∧ u < e ∧ openI hs u = true) ∨ (v = .int 0 ∧ ∀ u, st ≤ u → u < e → openI hs u = false))) ∨ (ps ≠ [] ∧ ∃ n : Nat, v = .int n ∧ Mst ps hs st e n)
def spMostB (K : PySem.W.Frag) : Sp := fun vs H Q _ => ∃ (rv : V) (st e : Int) (ps : List (Int × Int)) (hs : List Int), vs = [rv, .int st, .int e] ∧ RulV K H rv ps hs ∧ ps.length ≤ 4 ∧ (∀ p ∈ ps, 1 ≤ p.1 ∧ p.1 ≤ 6 ∧ 1 ≤ p.2) ∧ (∃ j : Nat, ∃ h : j < hs.length, hs[j] = 1) ∧ e ≤ st + 100 ∧ ∀ v H', MostV ps hs st e v → Same H H' → Q v H'
theorem row_short {ps : List (Int × Int)} {hs ts : List Int} {st e : Int} (h0 : ps ≠ []) (hp : ∀ p ∈ ps, 1 ≤ p.1 ∧ p.1 ≤ 6 ∧ 1 ≤ p.2) (sr : SRow ps hs [] st ts) (hlt : ∀ x ∈ ts, x < e) (he : e ≤ st + 100) : ts.length ≤ 606 := by
  obtain ⟨p, l, rfl⟩ := List.exists_cons_of_ne_nil h0
  have hq := hp p (List.mem_cons_self)
  by_cases z : ts.length ≤ 606
  · exact z
  · have g := row_grow (List.mem_cons_self) (K := 6) ⟨hq.1, hq.2.1⟩ (W := 1) hq.2.2 (by decide) sr 100 600 (by omega) (by omega)
    have := hlt _ (List.getElem_mem (l := ts) (n := 600) (by omega))
    have g : st + 1 * (100 : Int) ≤ ts[600] := g
    omega
section
variable {P : Program} {w : World} {K : PySem.W.Frag} {mg : Str → Option Value} {base : Heap}
theorem sc_mostb : FnScope ["rules", "start", "end", "limits", "hours", "asks", "moment"] ["rules", "start", "end"] (defScope s_most_between) := ⟨rfl, rfl, rfl, by decide +kernel, rfl, by decide +kernel, by decide +kernel⟩
theorem ok_mostb (T : D K mg) : FnOk P w K mg base CX0 4 T.f_most_between T.d_most_between ["rules", "start", "end"] (spMostB K) := by
  refine T.U_most_between.ok sc_mostb (fun vs H Q E h => ?_) (fun cdv A outer s H vs Q E hr h => ?_)
  · obtain ⟨rv, st, e, ps, hs, rfl, _⟩ := h
    rfl
  · obtain ⟨rv, st, e, ps, hs, rfl, hR, hl4, hp, ho, he, k⟩ := h
    have nd := sc_mostb.nd
    have mz : 5000 ≤ sizeLine := by decide
    refine ⟨_, pss_cons (ps_asg (pv 0) (pg_tup rfl (pgs_cons (pg_name (i := 3) nd rfl (.inl rfl)) (pgs_cons (pg_name (i := 4) nd rfl (.inl rfl)) pgs_nil))))
      (pss_cons (ps_if (pt_not (pt_truth (pv 3) (fun _ => rfl)))
        (pss_one (ps_ret (pe_ifExp (pt_cmpR op_lt (pe_call (ok_nopenK T) (hr.mono (by decide)) rfl T.g_next_open T.U_next_open.kp T.b_next_open .nil pass0 (pa_cons (pv 4) (pa_cons (pv 1) pa_nil))) (pv 2) (nomark _)) pe_non pe_int)))
        (pss_nil))
      (pss_cons (ps_set (i := 5) nd rfl (.inl rfl) (pe_lst pa_nil))
      (pss_cons (ps_set (i := 6) nd rfl (.inl rfl) (pe_call (ok_nextK T) hr rfl T.g_next_ask T.U_next_ask.kp T.b_next_ask .nil pass0 (pa_cons (pv 0) (pa_cons (pv 5) (pa_cons (pv 1) pa_nil)))))
      (pss_cons (ps_while PassesOwn.never (pt_cmpR op_lt (pv 6) (pv 2) (nomark _))
        (pss_cons (ps_expr (pe_bm PySem.F.plainAttrs_list PySem.F.slot_list_append PySem.F.type_list_append mt_append (pv 5) (pa_cons (pv 6) pa_nil)))
        (pss_one (ps_set (i := 6) nd rfl (.inl rfl) (pe_call (ok_nextK T) hr rfl T.g_next_ask T.U_next_ask.kp T.b_next_ask .nil pass0 (pa_cons (pv 0) (pa_cons (pv 5) (pa_cons (pv 1) pa_nil))))))))
      (pss_one (ps_ret (pe_callB call_len_seq (by rfl) T.len PySem.boot_len (pa_cons (pv 5) pa_nil)))))))), ?_⟩
    have hR0 := hR
    obtain ⟨ra, lv, hv, rfl, era, oL, oH⟩ := hR
    obtain ⟨la, ls, rfl, el, ol⟩ := od_tup oL
    have lls : ls.length = ps.length := by rw [ol.len, List.length_map, List.length_map]
    have hp1 : ∀ p ∈ ps, 1 ≤ p.1 := fun p h => (hp p h).1
    refine ⟨_, rfl, ra, _, rfl, SqT.of era, rfl, _, _, rfl, _, _, rfl, rfl, ?_⟩
    refine ⟨_, rfl, !ls.isEmpty, .inr (.inl ⟨ls, SqT.of el, rfl⟩), ?_⟩
    cases hps : ps with
    | nil =>
      have e0 : ls = [] := List.eq_nil_of_length_eq_zero (by rw [lls, hps]; rfl)
      rw [e0, if_pos (show (!!([] : List V).isEmpty) = true from rfl)]
      refine ⟨_, rfl, _, rfl, hv, hs, st, rfl, oH, ho, fun u hu su lu => ⟨_, rfl, _, _, rfl, rfl, _, rfl, ite2 (fun z => ?_) (fun z => ?_)⟩⟩
      · have z := of_decide_eq_true z
        exact k _ _ (.inl ⟨hps, .inl ⟨rfl, u, su, z, hu⟩⟩) (.refl H)
      · refine k _ _ (.inl ⟨hps, .inr ⟨rfl, fun v v1 v2 => ?_⟩⟩) (.refl H)
        cases hv' : openI hs v with
        | false => rfl
        | true =>
          have := lu v v1 hv'
          exact absurd (decide_eq_true (by omega)) z
    | cons p0 ps0 =>
      have hne : ps ≠ [] := fun h => by rw [hps] at h; cases h
      have e0 : ls.isEmpty = false := by
        cases hl : ls with
        | nil => rw [hl, hps] at lls; cases lls
        | cons a l => rfl
      rw [e0, if_neg (show ¬ (!!false) = true from (by decide))]
      refine next_of ?_
      dsimp only
      refine ⟨by show 0 ≤ sizeLine; omega, fun r hr0 => gn ?_⟩
      have s1 := same_upd (o := HO.lst []) hr0
      have e1 : upd H r (.lst []) r = some (.lst (([] : List Int).map V.int)) := upd_same
      generalize upd H r (.lst []) = H1 at *
      refine ⟨_, rfl, _, rfl, _, rfl, _, r, st, ps, hs, [], rfl, rulV_same s1 hR0, by omega, hp1, ho, e1, Nat.zero_le _, fun t H2 nx s2 => gn ?_⟩
      refine ⟨fun m σ Hx => Same H Hx ∧ ∃ (ts : List Int) (u : Int), σ = [some (.ref ra), some (.int st), some (.int e), some (.ref la), some hv, some (.ref r), some (.int u)] ∧ Hx r = some (.lst (ts.map V.int)) ∧ SRow ps hs [] st ts ∧ (∀ x ∈ ts, x < e) ∧ IsNxt ps hs ts st u ∧ m = 700 - ts.length, ⟨_, s1.trans s2, [], t, rfl, s2 _ _ e1, SRow.nil, (fun _ h => nomatch h), nx, rfl⟩, ?_⟩
      rintro m σ Hx ⟨sx, ts, u, rfl, ex, srow, hlt, hn, rfl⟩
      refine ⟨_, rfl, _, rfl, _, _, rfl, rfl, _, rfl, ite2 (fun z => ?_) (fun z => ?_)⟩
      · have z := of_decide_eq_true z
        have srow' : SRow ps hs [] st (ts ++ [u]) := SRow.snoc srow hn
        have hlt' : ∀ x ∈ ts ++ [u], x < e := fun x hx => by
          rcases List.mem_append.mp hx with h | h
          · exact hlt x h
          · rw [List.mem_singleton.mp h]; exact z
        have hl := row_short hne hp srow' hlt' he
        rw [List.length_append] at hl
        have hl : ts.length + 1 ≤ 606 := hl
        refine ⟨fun σ' H3 => Same H H3 ∧ ∃ (us : List Int) (u' : Int), σ' = [some (.ref ra), some (.int st), some (.int e), some (.ref la), some hv, some (.ref r), some (.int u')] ∧ H3 r = some (.lst (us.map V.int)) ∧ SRow ps hs [] st us ∧ (∀ x ∈ us, x < e) ∧ IsNxt ps hs us st u' ∧ us.length = ts.length + 1, ?_, ?_⟩
        · rintro σ' H3 ⟨s3, us, u', rfl, e3, r3, l3, n3, len3⟩
          exact ⟨700 - us.length, by omega, s3, us, u', rfl, e3, r3, l3, n3, rfl⟩
        · refine ⟨_, rfl, .inl ⟨rfl, _, SqL.of ex⟩, _, rfl, r, _, _, rfl, rfl, ex, by rw [List.length_map]; omega, ?_⟩
          have sy := same_into (o := HO.lst (ts.map V.int ++ [V.int u])) hr0 sx
          have ey : upd Hx r (.lst (ts.map V.int ++ [V.int u])) r = some (.lst ((ts ++ [u]).map V.int)) := by
            rw [upd_same, List.map_append]
            rfl
          generalize upd Hx r (.lst (ts.map V.int ++ [V.int u])) = Hy at *
          refine ⟨_, rfl, _, rfl, _, rfl, _, r, st, ps, hs, ts ++ [u], rfl, rulV_same sy hR0, by omega, hp1, ho, ey, by rw [List.length_append]; show _ + 1 ≤ _; omega, fun u' H4 nx' s4 => gn ?_⟩
          exact ⟨sy.trans s4, ts ++ [u], u', rfl, s4 _ _ ey, srow', hlt', nx', by rw [List.length_append]; rfl⟩
      · have z : ¬ u < e := fun h => z (decide_eq_true h)
        dsimp only
        refine ⟨_, rfl, r, _, rfl, .inl (SqL.of ex), ?_⟩
        rw [List.length_map]
        exact k _ _ (.inr ⟨hne, ts.length, rfl, ts, srow, rfl, hlt, fun t' ht => by rw [ht.one hn]; omega⟩) sx
/-- the hours that are always open -/
theorem hrs_always (T : D K mg) (H : Hp) : HrsV K H (.ref T.a_ALWAYS) [1] := ⟨_, rfl, .inr T.k_ALWAYS⟩
def spMostW (K : PySem.W.Frag) : Sp := fun vs H Q _ => ∃ (lv : V) (m : Int) (ps : List (Int × Int)), vs = [lv, .int m] ∧ Od H lv (.tuple ((ps.map inD).map tw)) ∧ ps.length ≤ 4 ∧ (∀ p ∈ ps, 1 ≤ p.1 ∧ p.1 ≤ 6 ∧ 1 ≤ p.2) ∧ m ≤ 100 ∧ ∀ v H', MostV ps [1] 0 m v → Same H H' → Q v H'
end
end KP

set_option Elab.async false
set_option maxRecDepth 100000
set_option maxHeartbeats 4000000
set_option linter.all false
/-! Ours: most, most_from, most_table, of right arguments. -/
namespace KP
open PySem PySem.Spec PyProof.Rows L2 Gr GxR
theorem lims_good {ps : List (Int × Int)} (hl : ps.length ≤ 4) (hp : ∀ p ∈ ps, 1 ≤ p.1 ∧ p.1 ≤ 6 ∧ 1 ≤ p.2 ∧ p.2 ≤ 12) : limsD (.tuple ((ps.map inD).map tw)) = true := by
  have g : Good ps [1] := ⟨hl, hp, Nat.zero_lt_one, by decide, fun x hx => by rw [List.mem_singleton.mp hx]; decide, ⟨0, Nat.zero_lt_one, rfl⟩⟩
  have r := g.rules
  have r : (limsD (.tuple ((ps.map inD).map tw)) && hoursD (.tuple ([1].map PyData.int))) = true := r
  rw [Bool.and_eq_true] at r
  exact r.1
def Lm (ps : List (Int × Int)) : Prop := ps.length ≤ 4 ∧ ∀ p ∈ ps, 1 ≤ p.1 ∧ p.1 ≤ 6 ∧ 1 ≤ p.2 ∧ p.2 ≤ 12
theorem Lm.c {ps : List (Int × Int)} (h : Lm ps) : ∀ p ∈ ps, 1 ≤ p.1 ∧ p.1 ≤ 6 ∧ 1 ≤ p.2 := fun p hp => ⟨(h.2 p hp).1, (h.2 p hp).2.1, (h.2 p hp).2.2.1⟩
def spMost (L : List Addr) : Sp := fun vs H Q _ => ∃ (lv : V) (m : Int) (ps : List (Int × Int)), vs = [lv, .int m] ∧ Od H lv (.tuple ((ps.map inD).map tw)) ∧ Lm ps ∧ 0 ≤ m ∧ m ≤ 100 ∧ Tb L H ∧ ∀ v H', MostV ps [1] 0 m v → UpL L H H' → Q v H'
def spMostF (L : List Addr) : Sp := fun vs H Q _ => ∃ (rv : V) (st m : Int) (ps : List (Int × Int)) (hs : List Int), vs = [rv, .int st, .int m] ∧ Od H rv (rulesP ps hs) ∧ Good ps hs ∧ 0 ≤ st ∧ 0 ≤ m ∧ m ≤ 100 ∧ Tb L H ∧ ∀ v H', MostV ps hs st (st + m) v → UpL L H H' → Q v H'
def spMostT (L : List Addr) : Sp := fun vs H Q _ => ∃ (lv : V) (ps : List (Int × Int)), vs = [lv] ∧ Od H lv (.tuple ((ps.map inD).map tw)) ∧ Lm ps ∧ Tb L H ∧ ∀ a xs H', H' a = some (.tup xs) → xs.length = 12 → (∀ (i : Nat) (h : i < xs.length), MostV ps [1] 0 ((i : Int) + 1) xs[i]) → UpL L H H' → Q (.ref a) H'
section
variable {P : Program} {w : World} {K : PySem.W.Frag} {mg : Str → Option Value} {base : Heap}
end
end KP

set_option Elab.async false
set_option maxRecDepth 100000
set_option maxHeartbeats 4000000
set_option linter.all false
/-! Ours: quiet code: len and items of a list; loops of two fors. -/
namespace Gr
open PySem PySem.Spec PyProof.Rows L2 GxR
section
variable {P : Program} {w : World} {K : PySem.W.Frag} {mg : Str → Option Value} {base h0 : Heap} {k : Nat} {env : Env} {m : Str → Option Value}
theorem vd_lst {h : Heap} {y : Value} {ds : List PyData} (r : Vd h y (.list ds)) : ∃ t its, y = .ref t ∧ h.IsList t its ∧ VdAll h its.toList ds := by
  obtain ⟨as, r⟩ := r
  cases r with
  | list h1 h2 h3 h4 => exact ⟨_, _, rfl, ⟨_, h1, h2, _, h3⟩, vd_all h4⟩
theorem qe_lenL {e : Expr} {p1 pos : Pos} {ds : List PyData} (C : Qc K mg base env) (he : QE P w base h0 k env m e (.list ds)) (hg : env.scope.names.lookup ("len" : Str) = some .globalImplicit) (hm : mg "len" = none) (hl : ds.length ≤ sizeLine)
    (hs : starEach [e] env = (false, eval e env) :: starEach [] env := by rfl) (hpl : (backTo pos (starEach [] env)).any (·.1) = false := by rfl) :
    QE P w base h0 k env m (.Call (.Name "len" p1) [e] [] pos) (.int ds.length) := by
  intro B E z q
  refine wpAny_Call_Name_kw (q_blt C q hg hm PySem.boot_len (PyProof.Rows.callWith_builtin1 ?_ hs hpl))
  rw [hs]
  show wpAny _ _ (spliced ((false, eval e env) :: backTo pos (starEach [] env))) _ _ z
  refine Calls.spliced_cons (thn (he B E z q) fun u z1 ⟨r1, k1⟩ => Calls.spliced_nil ?_)
  obtain ⟨t, its, rfl, ht, ha⟩ := vd_lst r1
  have hn := line63
  have hz : its.size = ds.length := by
    have := ha.len
    rw [← this, Array.length_toList]
  refine len_list ht (by rw [hz]; omega) ⟨?_, kt k1 (keeps_tok _ _)⟩
  rw [hz]
  exact ⟨_, .int _ _⟩
def items_at (i : Int) (its : Array Value) : Option Value := if 0 ≤ i then its[i.toNat]? else its[(i + its.size).toNat]?
theorem qe_ixAL {e sl : Expr} {i : Int} {pos : Pos} {ds : List PyData} {d : PyData} (he : QE P w base h0 k env m e (.list ds)) (hi : QE P w base h0 k env m sl (.int i)) (ha : atI ds i = some d) (hl : ds.length ≤ sizeLine) (hs : ∀ o v, subscripted sl false o v = operate [o, v] (getItem o v) := by intro _ _; with_unfolding_all rfl) :
    QE P w base h0 k env m (.Subscript e sl pos) d := by
  intro B E z q
  refine Subscript_ (thn (he B E z q) fun u z1 ⟨r1, k1⟩ => thn (hi B E z1 (q.next k1)) fun x z2 ⟨r2, k2⟩ => ?_)
  obtain ⟨t, its, rfl, ht, hall⟩ := vd_lst (r1.up (kk k2))
  obtain ⟨t', rfl⟩ := vd_int r2
  have hn := line63
  have hz : its.size = ds.length := by
    have := hall.len
    rw [← this, Array.length_toList]
  obtain ⟨j, e1, e2, e3, e4, e5⟩ := atI_get ha
  obtain ⟨v, hv, rv⟩ := hall.get e2
  have hv' : its[j]? = some v := by rw [← Array.getElem?_toList]; exact hv
  have hx : items_at i its = some v := by
    unfold items_at
    by_cases h : 0 ≤ i
    · rw [if_pos h]
      have ej : j = i.toNat := by
        unfold seqIndex? at e1
        simp only [show ¬ i < 0 by omega, if_false] at e1
        split at e1 <;> simp_all
      rw [← ej]; exact hv'
    · rw [if_neg h]
      have ej : j = (i + ds.length).toNat := by
        unfold seqIndex? at e1
        simp only [show i < 0 by omega, if_true] at e1
        split at e1 <;> simp_all
      rw [hz, ← ej]; exact hv'
  unfold items_at at hx
  by_cases h : 0 ≤ i
  · rw [if_pos h] at hx
    exact subscriptTail_builtinR (x := v) ht.typeIs slot_list_getitem.lookup (wpAny_getItem_list (Q := fun r s' => r = v ∧ (Vd s'.heap r d ∧ Keeps z s')) ht h (by omega) hx ⟨rfl, rv, kt k1 k2⟩) (hs _ _)
  · rw [if_neg h] at hx
    exact subscriptTail_builtinR (x := v) ht.typeIs slot_list_getitem.lookup (wpAny_getItem_list_neg (Q := fun r s' => r = v ∧ (Vd s'.heap r d ∧ Keeps z s')) ht (by omega) (by rw [hz]; omega) (by omega) hx ⟨rfl, rv, kt k1 k2⟩) (hs _ _)
end
/-- a loop whose turn is told: for comprehensions of two fors -/
theorem walk_loop {J : It} {n : Nat} {G : Hp → Prop} {Y : Nat → Hp → V → Hp → Prop} (w : Walk J n G Y) {STEP : V → Hp → (Hp → Prop) → Prop} {Nx : Hp → Prop} {H0 : Hp} (Pv : Nat → Hp → Prop) (h0 : Pv 0 H0) (hG : ∀ i H, i ≤ n → Pv i H → G H)
    (hs : ∀ i x H H', i < n → Pv i H → Y i H x H' → STEP x H' (Pv (i + 1))) (hd : ∀ H, Pv n H → Nx H) :
    ∃ W : Nat → Nat → Hp → Prop, (∃ m, W 0 m H0) ∧ ∀ i m H, W i m H → (J.stop i H ∧ Nx H) ∨ (J.go i H ∧ ∃ Nx1 : Hp → Prop, (∀ H', Nx1 H' → ∃ m', m' < m ∧ W (i + 1) m' H') ∧ ∀ x H', J.yld i H x H' → STEP x H' Nx1) := by
  refine ⟨fun i m H => m = n - i ∧ i ≤ n ∧ Pv i H, ⟨n, by simp, Nat.zero_le _, h0⟩, ?_⟩
  rintro i m H ⟨rfl, hi, p⟩
  have q := hG i H hi p
  by_cases hlt : i < n
  · exact .inr ⟨w.goes i H hlt q, Pv (i + 1), fun H' p' => ⟨n - (i + 1), by omega, rfl, hlt, p'⟩, fun x H' y => hs i x H H' hlt p (w.yields i H x H' hlt q y)⟩
  · have e : i = n := by omega
    subst e
    exact .inl ⟨w.stops H q, hd H p⟩
end Gr

set_option Elab.async false
set_option maxRecDepth 100000
set_option maxHeartbeats 4000000
set_option linter.all false
/-! Ours: soonest_asks, of hours laid or written. -/
namespace KP
open PySem PySem.Spec PyProof.Rows L2 Gr GxR
def spSoonK (K : PySem.W.Frag) : Sp := fun vs H Q _ => ∃ (rv : V) (r : Addr) (n st : Int) (ps : List (Int × Int)) (hs ns : List Int), vs = [rv, .ref r, .int n, .int st] ∧ RulV K H rv ps hs ∧ ps.length ≤ 8 ∧ (∀ p ∈ ps, 1 ≤ p.1) ∧ (∃ j : Nat, ∃ h : j < hs.length, hs[j] = 1) ∧ (SqL K H r (ns.map V.int) ∨ SqT K H r (ns.map V.int)) ∧ ns.length ≤ 1000 ∧ 0 ≤ n ∧ n ≤ 1000 ∧
  ∀ z ts H', Same H H' → H' z = some (.lst (ts.map V.int)) → ts.length = n.toNat → SRow ps hs ns st ts → Q (.ref z) H'
section
variable {P : Program} {w : World} {K : PySem.W.Frag} {mg : Str → Option Value} {base : Heap}
theorem sc_soonK : FnScope ["rules", "asks", "many", "since", "rows", "_"] ["rules", "asks", "many", "since"] (defScope s_soonest_asks) := ⟨rfl, rfl, rfl, by decide +kernel, rfl, by decide +kernel, by decide +kernel⟩
theorem ok_soonK (T : D K mg) : FnOk P w K mg base CX0 4 T.f_soonest_asks T.d_soonest_asks ["rules", "asks", "many", "since"] (spSoonK K) := by
  refine T.U_soonest_asks.ok sc_soonK (fun vs H Q E h => ?_) (fun cdv A outer s H vs Q E hr h => ?_)
  · obtain ⟨rv, r, n, st, ps, hs, ns, rfl, _⟩ := h
    rfl
  · obtain ⟨rv, r, nn, st, ps, hs, ns, rfl, hR, hl4, hp, ho, er, hn, n0, n1, k⟩ := h
    have nd := sc_soonK.nd
    have mz : 5000 ≤ sizeLine := by decide
    refine ⟨_, pss_cons (ps_set (i := 4) nd rfl (.inl rfl) (pe_callTy call_list_of (by rfl) T.list (by decide +kernel) (pa_cons (pv 1) pa_nil)))
      (pss_cons (ps_for PassesOwn.never rfl (pi_range1 rfl T.range (pa_cons (pv 2) pa_nil)) (pg_name (i := 5) nd rfl (.inl rfl))
        (pss_one (ps_expr (pe_bm PySem.F.plainAttrs_list PySem.F.slot_list_append PySem.F.type_list_append mt_append (pv 4) (pa_cons (pe_call (ok_nextK T) hr rfl T.g_next_ask T.U_next_ask.kp T.b_next_ask .nil pass0 (pa_cons (pv 0) (pa_cons (pv 4) (pa_cons (pv 3) pa_nil)))) pa_nil)))))
      (pss_one (ps_ret (pe_slice sl_list (pv 4) (po_some (pe_callB call_len_seq (by rfl) T.len PySem.boot_len (pa_cons (pv 1) pa_nil))) po_none)))), ?_⟩
    have er' : ∀ H2, Same H H2 → (SqL K H2 r (ns.map V.int) ∨ SqT K H2 r (ns.map V.int)) := fun H2 s2 => er.elim (fun h => .inl (sql_same s2 h)) (fun h => .inr (sqt_same s2 h))
    refine ⟨_, rfl, r, _, rfl, er, fun Ln hLn => gn ?_⟩
    have s1 := same_upd (o := HO.lst (ns.map V.int)) hLn
    have e1 : upd H Ln (.lst (ns.map V.int)) Ln = some (.lst ((ns ++ []).map V.int)) := by rw [upd_same, List.append_nil]
    generalize upd H Ln (.lst (ns.map V.int)) = H1 at *
    refine ⟨_, rfl, nn, rfl, by omega, by omega, for_range (lo := 0) (n := _) (fun i σ H2 => Same H H2 ∧ ∃ (ts : List Int) (v5 : Option V), H2 Ln = some (.lst ((ns ++ ts).map V.int)) ∧ σ = [some rv, some (.ref r), some (.int nn), some (.int st), some (.ref Ln), v5] ∧ ts.length = i ∧ SRow ps hs ns st ts) ⟨s1, [], none, e1, rfl, rfl, SRow.nil⟩ ?_ ?_⟩
    · rintro i σ H2 hi ⟨s2, ts, v5, e2, rfl, lts, srow⟩
      have hrl : (ns ++ ts).length ≤ 2000 := by rw [List.length_append]; omega
      refine gn ?_
      refine ⟨_, rfl, .inl ⟨rfl, _, SqL.of e2⟩, _, rfl, _, rfl, _, rfl, rv, Ln, st, ps, hs, ns ++ ts, rfl, rulV_same s2 hR, hl4, hp, ho, e2, by omega, fun t H3 nx s3 => ?_⟩
      refine ⟨Ln, _, _, rfl, rfl, s3 _ _ e2, by rw [List.length_map]; omega, ?_⟩
      refine ⟨same_into hLn (s2.trans s3), ts ++ [t], _, ?_, rfl, by rw [List.length_append, lts]; rfl, SRow.snoc srow nx⟩
      rw [upd_same]
      simp [List.map_append]
    · rintro σ H2 ⟨s2, ts, v5, e2, rfl, lts, srow⟩
      refine ⟨_, rfl, _, rfl, r, _, rfl, er' _ s2, _, rfl, ?_⟩
      dsimp only [tNoPart]
      refine ⟨Ln, _, rfl, SqL.of e2, fun z hz => ?_⟩
      have ecut : cutV ((ns ++ ts).map V.int) (some (((ns.map V.int).length : Nat) : Int)) none = ts.map V.int := by
        rw [cutV_from, List.map_append, List.drop_left]
      rw [ecut]
      exact k z ts _ (s2.trans (same_upd hz)) upd_same lts srow
end
end KP

set_option Elab.async false
set_option maxRecDepth 100000
set_option maxHeartbeats 4000000
set_option linter.all false
/-! Ours: mathematics: the soonest asks of limits, always open, as gaps. -/
namespace KP
open PySem PySem.Spec PyProof.Rows L2 Gr GxR
def P1 (ps : List (Int × Int)) : Prop := ∀ p ∈ ps, 1 ≤ p.1
theorem one1 : ∃ j : Nat, ∃ h : j < [(1 : Int)].length, [(1 : Int)][j] = 1 := ⟨0, Nat.zero_lt_one, rfl⟩
theorem open1 (t : Int) : openI [1] t = true := by
  unfold openI
  have : (t % (([(1 : Int)].length : Nat) : Int)).toNat = 0 := by
    show (t % 1).toNat = 0
    omega
  rw [this]
  rfl
theorem srow_some {ps : List (Int × Int)} (hp : P1 ps) : ∀ n : Nat, ∃ ts, SRow ps [1] [] 0 ts ∧ ts.length = n
  | 0 => ⟨[], SRow.nil, rfl⟩
  | n + 1 => by
    obtain ⟨ts, h, l⟩ := srow_some hp n
    obtain ⟨t, nx⟩ := nxt_some (rs := [] ++ ts) (st := 0) hp one1
    exact ⟨ts ++ [t], h.snoc nx, by rw [List.length_append, l]; rfl⟩
open Classical in
/-- the soonest ask of number k -/
noncomputable def G (ps : List (Int × Int)) (k : Nat) : Int := if h : ∃ ts : List Int, SRow ps [1] [] 0 ts ∧ ts.length = k + 1 then (choose h).getD k 0 else 0
theorem G_at {ps : List (Int × Int)} {ts : List Int} (h : SRow ps [1] [] 0 ts) {k : Nat} (hk : k < ts.length) : G ps k = ts[k] := by
  have e : ∃ us : List Int, SRow ps [1] [] 0 us ∧ us.length = k + 1 := ⟨ts.take (k + 1), h.take _, by rw [List.length_take]; omega⟩
  unfold G
  rw [dif_pos e]
  have c := Classical.choose_spec e
  generalize Classical.choose e = us at c
  obtain ⟨c1, c2⟩ := c
  have o := SRow.one h c1 (k + 1) (by omega) (by omega)
  have o1 : (ts.take (k + 1))[k]? = (us.take (k + 1))[k]? := by rw [o]
  rw [List.getElem?_take_of_lt (by omega), List.getElem?_take_of_lt (by omega), List.getElem?_eq_getElem hk] at o1
  rw [List.getD_eq_getElem?_getD, ← o1]
  rfl
theorem G_row {ps : List (Int × Int)} {ts : List Int} (h : SRow ps [1] [] 0 ts) : ts = (List.range ts.length).map (G ps) := by
  refine List.ext_getElem (by simp) fun i h1 h2 => ?_
  rw [List.getElem_map, List.getElem_range, G_at h h1]
theorem G_srow {ps : List (Int × Int)} (hp : P1 ps) (n : Nat) : SRow ps [1] [] 0 ((List.range n).map (G ps)) := by
  obtain ⟨ts, h, l⟩ := srow_some hp n
  have := G_row h
  rw [l] at this
  rw [← this]
  exact h
theorem G_nxt {ps : List (Int × Int)} (hp : P1 ps) (k : Nat) : IsNxt ps [1] ((List.range k).map (G ps)) 0 (G ps k) := by
  have h := G_srow hp (k + 1) k (by simp)
  rw [List.getElem_map, List.getElem_range, List.nil_append, ← List.map_take, List.take_range, Nat.min_eq_left (Nat.le_succ k)] at h
  exact h
theorem atI_range (g : Nat → Int) {k : Nat} {m : Int} (h1 : 1 ≤ m) (h2 : m ≤ k) : atI ((List.range k).map g) (-m) = some (g (k - m.toNat)) := by
  unfold atI ixN
  rw [List.length_map, List.length_range, if_neg (by omega), if_pos (by omega)]
  show ((List.range k).map g)[(-m + (k : Int)).toNat]? = _
  have e : (-m + (k : Int)).toNat = k - m.toNat := by omega
  rw [e, List.getElem?_map, List.getElem?_range (by omega)]
  rfl
theorem ap_range (g : Nat → Int) {k : Nat} {q : Int × Int} (t : Int) (h1 : 1 ≤ q.1) : apI ((List.range k).map g) t q = true ↔ (q.1 ≤ k → g (k - q.1.toNat) + q.2 ≤ t) := by
  unfold apI
  rw [List.length_map, List.length_range, Bool.or_eq_true, decide_eq_true_eq]
  by_cases z : q.1 ≤ k
  · rw [atI_range g h1 z]
    show _ ∨ decide (q.2 ≤ t - g (k - q.1.toNat)) = true ↔ _
    rw [decide_eq_true_eq]
    constructor
    · rintro (h | h) _
      · omega
      · omega
    · intro h
      have := h z
      exact .inr (by omega)
  · exact ⟨fun _ h => absurd h z, fun _ => .inl (by omega)⟩
theorem G_zero {ps : List (Int × Int)} (hp : P1 ps) : G ps 0 = 0 := by
  have n := G_nxt hp 0
  have h1 := n.past.1
  have h2 := n.least 0 ⟨Int.le_refl _, fun x hx => by cases hx⟩ (open1 0) (List.all_eq_true.mpr fun q hq => (ap_range (G ps) (k := 0) 0 (hp q hq)).mpr fun h => absurd h (by have := hp q hq; omega))
  omega
theorem G_ge {ps : List (Int × Int)} (hp : P1 ps) {q : Int × Int} (hq : q ∈ ps) {k : Nat} (hk : q.1 ≤ k) : G ps (k - q.1.toNat) + q.2 ≤ G ps k :=
  (ap_range (G ps) _ (hp q hq)).mp (List.all_eq_true.mp (G_nxt hp k).all q hq) hk
theorem G_step {ps : List (Int × Int)} (hp : P1 ps) (k : Nat) : G ps k ≤ G ps (k + 1) :=
  (G_nxt hp (k + 1)).past.2 _ (by
    have := atI_range (G ps) (k := k + 1) (m := 1) (Int.le_refl _) (by omega)
    rw [this]
    rfl)
theorem G_mono {ps : List (Int × Int)} (hp : P1 ps) {a : Nat} : ∀ {b : Nat}, a ≤ b → G ps a ≤ G ps b
  | 0, h => by rw [Nat.le_zero.mp h]; exact Int.le_refl _
  | b + 1, h => by
    by_cases z : a ≤ b
    · exact Int.le_trans (G_mono hp z) (G_step hp b)
    · rw [show a = b + 1 by omega]; exact Int.le_refl _
theorem G_pos {ps : List (Int × Int)} (hp : P1 ps) (k : Nat) : 0 ≤ G ps k := by
  have := G_mono hp (Nat.zero_le k)
  rw [G_zero hp] at this
  exact this
theorem G_le {ps : List (Int × Int)} (hp : P1 ps) {k : Nat} {u : Int} (h0 : 0 ≤ u) (h1 : ∀ j, k = j + 1 → G ps j ≤ u) (h2 : ∀ q ∈ ps, q.1 ≤ k → G ps (k - q.1.toNat) + q.2 ≤ u) : G ps k ≤ u := by
  refine (G_nxt hp k).least u ⟨h0, fun x hx => ?_⟩ (open1 u) (List.all_eq_true.mpr fun q hq => (ap_range (G ps) u (hp q hq)).mpr (h2 q hq))
  cases k with
  | zero => cases hx
  | succ j =>
    have := atI_range (G ps) (k := j + 1) (m := 1) (Int.le_refl _) (by omega)
    rw [this] at hx
    cases hx
    exact h1 j rfl
theorem G_own {ps : List (Int × Int)} (hp : P1 ps) {q : Int × Int} (hq : q ∈ ps) : q.2 ≤ G ps q.1.toNat := by
  have := hp q hq
  have h := G_ge hp hq (k := q.1.toNat) (by omega)
  rw [Nat.sub_self, G_zero hp] at h
  omega
theorem G_super {ps : List (Int × Int)} (hp : P1 ps) (a : Nat) : ∀ b, G ps a + G ps b ≤ G ps (a + b) := fun b => by
  induction b using Nat.strongRecOn with
  | ind b ih =>
    have : G ps b ≤ G ps (a + b) - G ps a := by
      refine G_le hp ?_ (fun j hj => ?_) fun q hq hk => ?_
      · have := G_mono hp (Nat.le_add_right a b)
        omega
      · have h1 := ih j (by omega)
        have h2 := G_mono hp (a := a + j) (b := a + b) (by omega)
        omega
      · have h1 := hp q hq
        have h2 := ih (b - q.1.toNat) (by omega)
        have h3 := G_ge hp hq (k := a + b) (by omega)
        rw [show a + b - q.1.toNat = a + (b - q.1.toNat) by omega] at h3
        omega
    omega
/-- the gaps of ps keep qs up to k -/
theorem G_cmp {ps qs : List (Int × Int)} (hp : P1 ps) (hq : P1 qs) : ∀ k : Nat, (∀ q ∈ ps, q.1 ≤ k → q.2 ≤ G qs q.1.toNat) → G ps k ≤ G qs k := fun k => by
  induction k using Nat.strongRecOn with
  | ind k ih =>
    intro h
    refine G_le hp (G_pos hq k) (fun j hj => ?_) fun q hqm hk => ?_
    · exact Int.le_trans (ih j (by omega) fun q hm hk => h q hm (by omega)) (G_mono hq (by omega))
    · have h1 := hp q hqm
      have h2 := ih (k - q.1.toNat) (by omega) fun q' hm hk' => h q' hm (by omega)
      have h3 := h q hqm hk
      have h4 := G_super hq (k - q.1.toNat) q.1.toNat
      rw [show k - q.1.toNat + q.1.toNat = k by omega] at h4
      omega
def Strc (ps qs : List (Int × Int)) : Prop := ∀ q ∈ qs, q.2 ≤ G ps q.1.toNat
def K6 (ps : List (Int × Int)) : Prop := ∀ p ∈ ps, 1 ≤ p.1 ∧ p.1 ≤ 6
theorem K6.one {ps : List (Int × Int)} (h : K6 ps) : P1 ps := fun p hp => (h p hp).1
/-- two limits with the same first seven asks -/
def Alk (ps qs : List (Int × Int)) : Prop := ∀ k, k ≤ 6 → G ps k = G qs k
theorem Alk.str {ps qs : List (Int × Int)} (h : Alk ps qs) (hq : K6 qs) : Strc ps qs := fun q hm => by
  have := hq q hm
  rw [h _ (by omega)]
  exact G_own hq.one hm
theorem Alk.symm {ps qs : List (Int × Int)} (h : Alk ps qs) : Alk qs ps := fun k hk => (h k hk).symm
theorem Alk.trans {ps qs rs : List (Int × Int)} (h : Alk ps qs) (g : Alk qs rs) : Alk ps rs := fun k hk => (h k hk).trans (g k hk)
theorem alk_of {ps qs : List (Int × Int)} (hp : K6 ps) (hq : K6 qs) (a : Strc ps qs) (b : Strc qs ps) : Alk ps qs := fun k _ =>
  Int.le_antisymm (G_cmp hp.one hq.one k fun q hm _ => b q hm) (G_cmp hq.one hp.one k fun q hm _ => a q hm)
theorem Alk.all {ps qs : List (Int × Int)} (h : Alk ps qs) (hp : K6 ps) (hq : K6 qs) (k : Nat) : G ps k = G qs k :=
  Int.le_antisymm (G_cmp hp.one hq.one k fun q hm _ => h.symm.str hp q hm) (G_cmp hq.one hp.one k fun q hm _ => h.str hq q hm)
/-! ### rows -/
theorem ap_take {ns : List Int} {i : Nat} {q : Int × Int} (hi : i < ns.length) (h1 : 1 ≤ q.1) (t : Int) : apI (ns.take i) t q = true ↔ (q.1 ≤ i → ns.getD (i - q.1.toNat) 0 + q.2 ≤ t) := by
  have e : ns.take i = (List.range i).map fun j => ns.getD j 0 := by
    refine List.ext_getElem (by rw [List.length_take, List.length_map, List.length_range]; omega) fun j h1 h2 => ?_
    rw [List.length_take] at h1
    rw [List.getElem_take, List.getElem_map, List.getElem_range, List.getD_eq_getElem?_getD, List.getElem?_eq_getElem (by omega)]
    rfl
  rw [e]
  exact ap_range _ t h1
theorem polite_iff {ps : List (Int × Int)} (hp : P1 ps) {ns : List Int} : Polite ps [1] ns ↔ ∀ q ∈ ps, ∀ i, i < ns.length → q.1 ≤ i → ns.getD (i - q.1.toNat) 0 + q.2 ≤ ns.getD i 0 := by
  unfold Polite politeAt
  constructor
  · intro h q hq i hi
    have := h i hi
    rw [open1, Bool.true_and] at this
    exact (ap_take hi (hp q hq) _).mp (List.all_eq_true.mp this q hq)
  · intro h i hi
    rw [open1, Bool.true_and]
    exact List.all_eq_true.mpr fun q hq => (ap_take hi (hp q hq) _).mpr (h q hq i hi)
theorem gap_polite {ps : List (Int × Int)} (hp : P1 ps) {ns : List Int} (hs : Srt ns) (h : Polite ps [1] ns) : ∀ k i : Nat, i + k < ns.length → ns.getD i 0 + G ps k ≤ ns.getD (i + k) 0 := fun k => by
  have g : ∀ j (hj : j < ns.length), ns.getD j 0 = ns[j] := fun j hj => by rw [List.getD_eq_getElem?_getD, List.getElem?_eq_getElem hj]; rfl
  induction k using Nat.strongRecOn with
  | ind k ih =>
    intro i hi
    have : G ps k ≤ ns.getD (i + k) 0 - ns.getD i 0 := by
      refine G_le hp ?_ (fun j hj => ?_) fun q hq hk => ?_
      · have := hs i (i + k) (by omega) hi (by omega)
        rw [g i (by omega), g (i + k) hi]
        omega
      · have h1 := ih j (by omega) i (by omega)
        have h2 := hs (i + j) (i + k) (by omega) hi (by omega)
        rw [g (i + k) hi]
        rw [g (i + j) (by omega)] at h1
        omega
      · have h1 := hp q hq
        have h2 := ih (k - q.1.toNat) (by omega) i (by omega)
        have h3 := (polite_iff hp).mp h q hq (i + k) hi (by omega)
        rw [show i + k - q.1.toNat = i + (k - q.1.toNat) by omega] at h3
        omega
    omega
/-- what ps lets, qs lets -/
theorem polite_str {ps qs : List (Int × Int)} (hp : P1 ps) (hq : P1 qs) {ns : List Int} (hs : Srt ns) (s : Strc ps qs) (h : Polite ps [1] ns) : Polite qs [1] ns := (polite_iff hq).mpr fun q hm i hi hk => by
  have h1 := hq q hm
  have h2 := gap_polite hp hs h q.1.toNat (i - q.1.toNat) (by omega)
  have h3 := s q hm
  rw [show i - q.1.toNat + q.1.toNat = i by omega] at h2
  omega
theorem polite_alk {ps qs : List (Int × Int)} (hp : K6 ps) (hq : K6 qs) {ns : List Int} (hs : Srt ns) (a : Alk ps qs) : Polite ps [1] ns ↔ Polite qs [1] ns :=
  ⟨polite_str hp.one hq.one hs (a.str hq), polite_str hq.one hp.one hs (a.symm.str hp)⟩
theorem none_iff {ps : List (Int × Int)} {hs ns : List Int} : firstI ps hs ns = none ↔ Polite ps hs ns := ⟨first_no, fun h => first_none h⟩
theorem G_polite {ps : List (Int × Int)} (hp : P1 ps) (n : Nat) : Polite ps [1] ((List.range n).map (G ps)) := (polite_iff hp).mpr fun q hq i hi hk => by
  rw [List.length_map, List.length_range] at hi
  have e : ∀ j, j < n → ((List.range n).map (G ps)).getD j 0 = G ps j := fun j hj => by
    rw [List.getD_eq_getElem?_getD, List.getElem?_map, List.getElem?_range hj]
    rfl
  rw [e _ (by omega), e _ hi]
  exact G_ge hp hq hk
theorem G_srt {ps : List (Int × Int)} (hp : P1 ps) (n : Nat) : Srt ((List.range n).map (G ps)) := fun i j hi hj hij => by
  rw [List.getElem_map, List.getElem_map, List.getElem_range, List.getElem_range]
  exact G_mono hp hij
/-- the soonest asks of ps are polite for qs: qs is kept up to their number -/
theorem alk_rows {ps qs : List (Int × Int)} (hp : K6 ps) (hq : K6 qs) (a : Polite qs [1] ((List.range 8).map (G ps))) (b : Polite ps [1] ((List.range 8).map (G qs))) : Alk ps qs := by
  have one : ∀ {ps qs : List (Int × Int)}, K6 ps → K6 qs → Polite qs [1] ((List.range 8).map (G ps)) → ∀ k, k ≤ 6 → G qs k ≤ G ps k := fun {ps qs} hp hq h k hk => by
    have := gap_polite hq.one (G_srt hp.one 8) h k 0 (by simp; omega)
    have e : ∀ j, j < 8 → ((List.range 8).map (G ps)).getD j 0 = G ps j := fun j hj => by
      rw [List.getD_eq_getElem?_getD, List.getElem?_map, List.getElem?_range hj]
      rfl
    rw [Nat.zero_add, e 0 (by omega), e k (by omega), G_zero hp.one] at this
    omega
  exact fun k hk => Int.le_antisymm (one hq hp b k hk) (one hp hq a k hk)
end KP

set_option Elab.async false
set_option maxRecDepth 100000
set_option maxHeartbeats 4000000
set_option linter.all false
/-! Ours: mathematics: tidied pairs. -/
namespace KP
open PySem PySem.Spec PyProof.Rows L2 Gr GxR
noncomputable def tidyN (ps : List (Int × Int)) : Nat → List (Int × Int)
  | 0 => []
  | m + 1 => if G (tidyN ps m) (m + 1) < G ps (m + 1) then tidyN ps m ++ [(((m + 1 : Nat) : Int), G ps (m + 1))] else tidyN ps m
noncomputable def tidyI (ps : List (Int × Int)) : List (Int × Int) := tidyN ps 6
structure TN (ps : List (Int × Int)) (m : Nat) (ks : List (Int × Int)) : Prop where
  eq : ∀ k, k ≤ m → G ks k = G ps k
  mem : ∀ q ∈ ks, q ∈ ps ∧ 1 ≤ q.1 ∧ q.1 ≤ m
  nd : ks.Nodup
theorem TN.one {ps : List (Int × Int)} {m : Nat} {ks : List (Int × Int)} (h : TN ps m ks) : P1 ks := fun q hq => (h.mem q hq).2.1
theorem G_nil (k : Nat) : G [] k = 0 := by
  have hp : P1 [] := fun _ h => nomatch h
  induction k with
  | zero => exact G_zero hp
  | succ k ih => exact Int.le_antisymm (G_le hp (Int.le_refl 0) (fun j hj => by rw [show j = k by omega, ih]; exact Int.le_refl 0) fun _ h => nomatch h) (G_pos hp _)
theorem tidy_tn {ps : List (Int × Int)} (hp : P1 ps) : ∀ m, TN ps m (tidyN ps m)
  | 0 => ⟨fun k hk => by rw [show k = 0 by omega, G_zero hp]; exact G_nil 0, (fun _ h => nomatch h), List.nodup_nil⟩
  | m + 1 => by
    have T := tidy_tn hp m
    show TN ps (m + 1) (if G (tidyN ps m) (m + 1) < G ps (m + 1) then tidyN ps m ++ [(((m + 1 : Nat) : Int), G ps (m + 1))] else tidyN ps m)
    generalize tidyN ps m = ks at *
    have ub : G ks (m + 1) ≤ G ps (m + 1) := G_cmp T.one hp _ fun q hq _ => by
      have h := T.mem q hq
      exact G_own hp h.1
    by_cases z : G ks (m + 1) < G ps (m + 1)
    · rw [if_pos z]
      -- the pair stands among ps
      have hin : (((m + 1 : Nat) : Int), G ps (m + 1)) ∈ ps := by
        apply Classical.byContradiction
        intro no
        have : G ps (m + 1) ≤ G ps (m + 1) - 1 := by
          refine G_le hp ?_ (fun j hj => ?_) fun q hq hk => ?_
          · have := G_pos T.one (m + 1)
            omega
          · have h1 := T.eq j (by omega)
            have h2 := G_mono T.one (a := j) (b := m + 1) (by omega)
            omega
          · have h1 := hp q hq
            by_cases e : q.1 = ((m + 1 : Nat) : Int)
            · have o := G_own hp hq
              have e2 : q.1.toNat = m + 1 := by omega
              rw [e2] at o ⊢
              rw [Nat.sub_self, G_zero hp]
              have : q.2 ≠ G ps (m + 1) := fun e3 => no (by
                have : q = (((m + 1 : Nat) : Int), G ps (m + 1)) := Prod.ext e e3
                rw [← this]
                exact hq)
              omega
            · have o := G_own hp hq
              have h2 := T.eq (m + 1 - q.1.toNat) (by omega)
              have h3 := T.eq q.1.toNat (by omega)
              have h4 := G_super T.one (m + 1 - q.1.toNat) q.1.toNat
              rw [show m + 1 - q.1.toNat + q.1.toNat = m + 1 by omega] at h4
              omega
        omega
      have mem' : ∀ q ∈ ks ++ [(((m + 1 : Nat) : Int), G ps (m + 1))], q ∈ ps ∧ 1 ≤ q.1 ∧ q.1 ≤ ((m + 1 : Nat) : Int) := fun q hq => by
        rcases List.mem_append.mp hq with h | h
        · have := T.mem q h
          exact ⟨this.1, this.2.1, by omega⟩
        · rw [List.mem_singleton.mp h]
          exact ⟨hin, by show (1 : Int) ≤ ((m + 1 : Nat) : Int); omega, Int.le_refl _⟩
      have one' : P1 (ks ++ [(((m + 1 : Nat) : Int), G ps (m + 1))]) := fun q hq => (mem' q hq).2.1
      refine ⟨fun k hk => ?_, mem', ?_⟩
      · have up : G (ks ++ [(((m + 1 : Nat) : Int), G ps (m + 1))]) k ≤ G ps k := G_cmp one' hp _ fun q hq _ => G_own hp (mem' q hq).1
        have dn : G ps k ≤ G (ks ++ [(((m + 1 : Nat) : Int), G ps (m + 1))]) k := by
          by_cases e : k = m + 1
          · rw [e]
            have := G_own one' (List.mem_append_right ks (List.mem_singleton.mpr rfl))
            exact this
          · rw [← T.eq k (by omega)]
            exact G_cmp T.one one' _ fun q hq _ => G_own one' (List.mem_append_left _ hq)
        omega
      · rw [List.nodup_append]
        refine ⟨T.nd, by simp, fun a ha b hb e => ?_⟩
        rw [List.mem_singleton.mp hb] at e
        have := (T.mem a ha).2.2
        rw [e] at this
        have this : ((m + 1 : Nat) : Int) ≤ m := this
        omega
    · rw [if_neg z]
      refine ⟨fun k hk => ?_, fun q hq => ?_, T.nd⟩
      · by_cases e : k = m + 1
        · rw [e]; omega
        · exact T.eq k (by omega)
      · have := T.mem q hq
        exact ⟨this.1, this.2.1, by omega⟩
theorem len_sub {α : Type} [BEq α] [LawfulBEq α] : ∀ {l m : List α}, l.Nodup → (∀ x ∈ l, x ∈ m) → l.length ≤ m.length
  | [], _, _, _ => Nat.zero_le _
  | a :: l, m, nd, h => by
    have nd' := List.nodup_cons.mp nd
    have ih := len_sub (l := l) (m := m.erase a) nd'.2 fun x hx => by
      have hxa : x ≠ a := fun e => nd'.1 (e ▸ hx)
      exact (List.mem_erase_of_ne hxa).mpr (h x (List.mem_cons_of_mem _ hx))
    have hm : a ∈ m := h a List.mem_cons_self
    have := List.length_erase_of_mem hm
    have : 0 < m.length := List.length_pos_of_mem hm
    rw [List.length_cons]
    omega
theorem tidy_len {ps : List (Int × Int)} (hp : P1 ps) : (tidyI ps).length ≤ ps.length := len_sub (tidy_tn hp 6).nd fun q hq => ((tidy_tn hp 6).mem q hq).1
theorem tidyN_len (ps : List (Int × Int)) : ∀ m, (tidyN ps m).length ≤ m
  | 0 => Nat.le_refl _
  | m + 1 => by
    have := tidyN_len ps m
    show (if _ then tidyN ps m ++ [_] else tidyN ps m).length ≤ m + 1
    split
    · rw [List.length_append]; show _ + 1 ≤ _; omega
    · omega
theorem tidy_mem {ps : List (Int × Int)} (hp : P1 ps) : ∀ q ∈ tidyI ps, q ∈ ps := fun q hq => ((tidy_tn hp 6).mem q hq).1
theorem tidy_k6 {ps : List (Int × Int)} (hp : P1 ps) : K6 (tidyI ps) := fun q hq => by
  have := ((tidy_tn hp 6).mem q hq).2
  exact ⟨this.1, by omega⟩
theorem tidy_alk {ps : List (Int × Int)} (hp : P1 ps) : Alk (tidyI ps) ps := (tidy_tn hp 6).eq
theorem tidyN_congr {ps qs : List (Int × Int)} (a : Alk ps qs) : ∀ m, m ≤ 6 → tidyN ps m = tidyN qs m
  | 0, _ => rfl
  | m + 1, h => by
    show (if G (tidyN ps m) (m + 1) < G ps (m + 1) then tidyN ps m ++ [(((m + 1 : Nat) : Int), G ps (m + 1))] else tidyN ps m) = (if G (tidyN qs m) (m + 1) < G qs (m + 1) then tidyN qs m ++ [(((m + 1 : Nat) : Int), G qs (m + 1))] else tidyN qs m)
    rw [tidyN_congr a m (by omega), a (m + 1) h]
theorem tidy_congr {ps qs : List (Int × Int)} (a : Alk ps qs) : tidyI ps = tidyI qs := tidyN_congr a 6 (Nat.le_refl _)
theorem tidy_iff {ps qs : List (Int × Int)} (hp : P1 ps) (hq : P1 qs) : tidyI ps = tidyI qs ↔ Alk ps qs :=
  ⟨fun e => (tidy_alk hp).symm.trans (e ▸ tidy_alk hq), tidy_congr⟩
theorem tidy_tidy {ps : List (Int × Int)} (hp : P1 ps) : tidyI (tidyI ps) = tidyI ps := tidy_congr (tidy_alk hp)
theorem tidy_lm {ps : List (Int × Int)} (h : Lm ps) : Lm (tidyI ps) := by
  have hp : P1 ps := fun q hq => (h.2 q hq).1
  exact ⟨Nat.le_trans (tidy_len hp) h.1, fun q hq => h.2 q (tidy_mem hp q hq)⟩
/-- the first seven -/
noncomputable def sevenI (ps : List (Int × Int)) : List Int := (List.range 7).map (G ps)
theorem seven_iff {ps qs : List (Int × Int)} : sevenI ps = sevenI qs ↔ Alk ps qs := by
  constructor
  · intro h k hk
    have : (sevenI ps)[k]? = (sevenI qs)[k]? := by rw [h]
    unfold sevenI at this
    rw [List.getElem?_map, List.getElem?_map, List.getElem?_range (by omega)] at this
    exact Option.some.inj this
  · intro h
    exact List.map_congr_left fun k hk => h k (by have := List.mem_range.mp hk; omega)
/-! ### the most asks in so many moments -/
theorem mst_G {ps : List (Int × Int)} (hp : P1 ps) {e : Int} {n : Nat} (h : Mst ps [1] 0 e n) : (∀ k, k < n → G ps k < e) ∧ e ≤ G ps n := by
  obtain ⟨ts, sr, l, h1, h2⟩ := h
  have e1 := G_row sr
  refine ⟨fun k hk => ?_, ?_⟩
  · rw [G_at sr (by omega)]
    exact h1 _ (List.getElem_mem _)
  · refine h2 _ ?_
    have := G_nxt hp n
    rw [← l, ← e1] at this
    rw [← l]
    exact this
theorem mst_of {ps : List (Int × Int)} (hp : P1 ps) {e : Int} {n : Nat} (h1 : ∀ k, k < n → G ps k < e) (h2 : e ≤ G ps n) : Mst ps [1] 0 e n := by
  refine ⟨(List.range n).map (G ps), G_srow hp n, by simp, fun t ht => ?_, fun t nx => ?_⟩
  · obtain ⟨k, hk, rfl⟩ := List.mem_map.mp ht
    exact h1 k (List.mem_range.mp hk)
  · rw [nx.one (G_nxt hp n)]
    exact h2
/-- what most_table answers, of each number of moments -/
def MostT (ps : List (Int × Int)) (xs : List V) : Prop := xs.length = 12 ∧ ∀ (i : Nat) (h : i < xs.length), MostV ps [1] 0 ((i : Int) + 1) xs[i]
theorem most_empty {ps : List (Int × Int)} {m : Int} {v : V} (hm : 0 < m) (h : MostV ps [1] 0 m v) : v = .non ↔ ps = [] := by
  rcases h with ⟨e, h⟩ | ⟨e, n, h, _⟩
  · rcases h with ⟨h, _⟩ | ⟨_, h⟩
    · exact ⟨fun _ => e, fun _ => h⟩
    · have := h 0 (Int.le_refl _) hm
      rw [open1] at this
      cases this
  · exact ⟨fun z => (by rw [h] at z; cases z), fun z => absurd z e⟩
theorem table_iff {ps qs : List (Int × Int)} {xs ys : List V} (hp : Lm ps) (hq : Lm qs) (a : MostT ps xs) (b : MostT qs ys) : xs = ys ↔ Alk ps qs := by
  have p1 : K6 ps := fun q h => ⟨(hp.2 q h).1, (hp.2 q h).2.1⟩
  have q1 : K6 qs := fun q h => ⟨(hq.2 q h).1, (hq.2 q h).2.1⟩
  constructor
  · intro e
    have half : ∀ {ps qs : List (Int × Int)} {xs : List V}, Lm ps → K6 ps → K6 qs → MostT ps xs → MostT qs xs → Strc qs ps := fun {ps qs xs} hp p1 q1 a b q hm => by
      have hq := hp.2 q hm
      have hi : q.2.toNat - 1 < xs.length := by rw [a.1]; omega
      have h1 := a.2 (q.2.toNat - 1) hi
      have h2 := b.2 (q.2.toNat - 1) hi
      have ei : (((q.2.toNat - 1 : Nat)) : Int) + 1 = q.2 := by omega
      rw [ei] at h1 h2
      have hne : ps ≠ [] := fun e => by rw [e] at hm; cases hm
      generalize xs[q.2.toNat - 1] = v at h1 h2
      have h2' := h2
      have nv : v ≠ .non := fun z => hne ((most_empty (by omega) h1).mp z)
      rcases h1 with ⟨e, _⟩ | ⟨_, n, ev, m1⟩
      · exact absurd e hne
      · rcases h2 with ⟨e, _⟩ | ⟨_, n2, ev2, m2⟩
        · exact absurd ((most_empty (m := q.2) (by omega) h2').mpr e) nv
        · rw [ev] at ev2
          cases ev2
          have g1 := mst_G p1.one m1
          have g2 := mst_G q1.one m2
          have o := G_own p1.one hm
          have nk : n ≤ q.1.toNat := by
            by_cases z : n ≤ q.1.toNat
            · exact z
            · have := g1.1 q.1.toNat (by omega)
              omega
          have := G_mono q1.one nk
          omega
    subst e
    exact alk_of p1 q1 (half hq q1 p1 b a) (half hp p1 q1 a b)
  · intro h
    refine List.ext_getElem (by rw [a.1, b.1]) fun i h1 h2 => ?_
    have m1 := a.2 i h1
    have m2 := b.2 i h2
    have emp : ∀ {ps qs : List (Int × Int)}, K6 ps → Lm qs → K6 qs → Alk ps qs → ps = [] → qs = [] := fun {ps qs} p1 hq q1 h e => by
      cases qs with
      | nil => rfl
      | cons q l =>
        have := h.str q1 q List.mem_cons_self
        rw [e, G_nil] at this
        have := (hq.2 q List.mem_cons_self).2.2.1
        omega
    by_cases z : ps = []
    · rw [(most_empty (by omega) m1).mpr z, (most_empty (by omega) m2).mpr (emp p1 hq q1 h z)]
    · have z2 : qs ≠ [] := fun e => z (emp q1 hp p1 h.symm e)
      rcases m1 with ⟨e, _⟩ | ⟨_, n, ev, m1⟩
      · exact absurd e z
      · rcases m2 with ⟨e, _⟩ | ⟨_, n2, ev2, m2⟩
        · exact absurd e z2
        · have g2 := mst_G q1.one m2
          have g : Mst ps [1] 0 ((i : Int) + 1) n2 := mst_of p1.one (fun k hk => by rw [h.all p1 q1]; exact g2.1 k hk) (by rw [h.all p1 q1]; exact g2.2)
          rw [ev, ev2, m1.one g]
end KP

set_option Elab.async false
set_option maxRecDepth 100000
set_option maxHeartbeats 4000000
set_option linter.all false
/-! Ours: tidied_pairs and what rests on it. -/
namespace KP
open PySem PySem.Spec PyProof.Rows L2 Gr GxR
abbrev limsP (ps : List (Int × Int)) : PyData := .tuple ((ps.map inD).map tw)
theorem tupD_lims (ps : List (Int × Int)) : tupD (limsP ps) = true := tupD_tup fun d hd => by
  obtain ⟨q, hq, rfl⟩ := List.mem_map.mp hd
  obtain ⟨p, hp, rfl⟩ := List.mem_map.mp hq
  rfl
def spTidyP : Sp := fun vs H Q _ => ∃ (lv : V) (ps : List (Int × Int)), vs = [lv] ∧ Od H lv (limsP ps) ∧ ps.length ≤ 8 ∧ P1 ps ∧ ∀ v H', Same H H' → Od H' v (limsP (tidyI ps)) → Q v H'
section
variable {P : Program} {w : World} {K : PySem.W.Frag} {mg : Str → Option Value} {base : Heap}
theorem sc_tidyp : FnScope ["limits", "asks", "kept", "most"] ["limits"] (defScope s_tidied_pairs) := ⟨rfl, rfl, rfl, by decide +kernel, rfl, by decide +kernel, by decide +kernel⟩
theorem ok_tidyp (T : D K mg) : FnOk P w K mg base CX0 5 T.f_tidied_pairs T.d_tidied_pairs ["limits"] spTidyP := by
  refine T.U_tidied_pairs.ok sc_tidyp (fun vs H Q E h => ?_) (fun cdv A outer s H vs Q E hr h => ?_)
  · obtain ⟨lv, ps, rfl, _⟩ := h
    rfl
  · obtain ⟨lv, ps, rfl, hL, l8, hp, k⟩ := h
    have nd := sc_tidyp.nd
    have mz : 5000 ≤ sizeLine := by decide
    refine ⟨_, pss_cons (ps_set (i := 1) nd rfl (.inl rfl) (pe_call (ok_soonK T) hr rfl T.g_soonest_asks T.U_soonest_asks.kp T.b_soonest_asks .nil pass0 (pa_cons (pe_tup (pa_cons (pv 0) (pa_cons (pe_glob (v := .ref T.a_ALWAYS) rfl T.g_ALWAYS rfl) pa_nil))) (pa_cons (pe_tup pa_nil) (pa_cons (pe_op op_add (pe_glob (v := .int 6) rfl T.g_MOST_ASKS ⟨_, rfl⟩) pe_int) (pa_cons pe_int pa_nil))))))
      (pss_cons (ps_set (i := 2) nd rfl (.inl rfl) (pe_tup pa_nil))
      (pss_cons (ps_for PassesOwn.never rfl (pi_range2 rfl T.range (pa_cons pe_int (pa_cons (pe_op op_add (pe_glob (v := .int 6) rfl T.g_MOST_ASKS ⟨_, rfl⟩) pe_int) pa_nil))) (pg_name (i := 3) nd rfl (.inl rfl))
        (pss_one (ps_if (pt_cmpR op_gt (pe_ix ix_list (pv 1) (pv 3) (fun _ _ => rfl)) (pe_ix ix_list (pe_call (ok_soonK T) hr rfl T.g_soonest_asks T.U_soonest_asks.kp T.b_soonest_asks .nil pass0 (pa_cons (pe_tup (pa_cons (pv 2) (pa_cons (pe_glob (v := .ref T.a_ALWAYS) rfl T.g_ALWAYS rfl) pa_nil))) (pa_cons (pe_tup pa_nil) (pa_cons (pe_op op_add (pv 3) pe_int) (pa_cons pe_int pa_nil))))) (pv 3) (fun _ _ => rfl)) (nomark _))
          (pss_one (ps_set (i := 2) nd rfl (.inl rfl) (pe_op op_catA (pv 2) (pe_tup (pa_cons (pe_tup (pa_cons (pv 3) (pa_cons (pe_ix ix_list (pv 1) (pv 3) (fun _ _ => rfl)) pa_nil))) pa_nil)))))
          (pss_nil))))
      (pss_one (ps_ret (pv 2))))), ?_⟩
    have sev : ∀ {ps : List (Int × Int)} {ts : List Int} {n : Nat}, SRow ps [1] [] 0 ts → ts.length = n → ts = (List.range n).map (G ps) := fun h l => by
      have := G_row h
      rw [l] at this
      exact this
    refine ⟨_, rfl, by show 2 ≤ sizeLine; omega, fun ra hra => ?_⟩
    have s1 := same_upd (o := HO.tup [lv, V.ref T.a_ALWAYS]) hra
    refine ⟨by show 0 ≤ sizeLine; omega, fun za hza => ?_⟩
    have s2 := same_upd (o := HO.tup []) hza
    refine ⟨_, _, rfl, rfl, _, za, 7, 0, ps, [1], [], rfl, ⟨ra, lv, _, rfl, s2 _ _ upd_same, hL.same (s1.trans s2), hrs_always T _⟩, l8, hp, one1, .inr (SqT.of upd_same), Nat.zero_le _, by decide, by decide, fun L ts H3 s3 eL lts sr => gn ?_⟩
    have s03 := (s1.trans s2).trans s3
    rw [sev sr lts] at eL
    clear lts sr
    dsimp only [List.set]
    refine ⟨by show 0 ≤ sizeLine; omega, fun kb hkb => gn ?_⟩
    have s4 := same_upd (o := HO.tup []) hkb
    have ok0 : Od (upd H3 kb (.tup [])) (.ref kb) (limsP (tidyN ps 0)) := .tup upd_same .nil
    have e4 := s4 _ _ eL
    generalize upd H3 kb (.tup []) = H4 at *
    have s04 := s03.trans s4
    dsimp only [List.set]
    refine ⟨_, _, rfl, rfl, 1, 7, rfl, ⟨by decide, by decide, by decide, by decide⟩, for_range (lo := 1) (n := 6) (fun i σ Hx => Same H4 Hx ∧ ∃ (kv : V) (v3 : Option V), σ = [some lv, some (.ref L), some kv, v3] ∧ Od Hx kv (limsP (tidyN ps i))) ⟨.refl _, _, _, rfl, ok0⟩ ?_ ?_⟩
    · rintro i σ Hx hi ⟨sx, kv, v3, rfl, okv⟩
      refine gn ?_
      dsimp only [List.set]
      have gk : ((List.range 7).map (G ps))[i + 1]? = some (G ps (i + 1)) := by
        rw [List.getElem?_map, List.getElem?_range (by omega)]
        rfl
      have ei : (1 : Int) + (i : Int) = ((i + 1 : Nat) : Int) := by omega
      rw [ei]
      refine ⟨_, rfl, _, rfl, L, _, ((i + 1 : Nat) : Int), _, rfl, rfl, SqL.of (sx _ _ e4), atI_mapV (atI_nat gk), _, rfl, by show 2 ≤ sizeLine; omega, fun rb hrb => ?_⟩
      have t1 := same_upd (o := HO.tup [kv, V.ref T.a_ALWAYS]) hrb
      refine ⟨by show 0 ≤ sizeLine; omega, fun zb hzb => ?_⟩
      have t2 := same_upd (o := HO.tup []) hzb
      have T6 := tidy_tn hp i
      refine ⟨_, rfl, _, _, rfl, rfl, _, zb, ((i + 1 : Nat) : Int) + 1, 0, tidyN ps i, [1], [], rfl, ⟨rb, kv, _, rfl, t2 _ _ upd_same, okv.same (t1.trans t2), hrs_always T _⟩, by have := tidyN_len ps i; omega, T6.one, one1, .inr (SqT.of upd_same), Nat.zero_le _, by omega, by omega, fun L2 ts2 H5 s5 eL2 lts2 sr2 => ?_⟩
      have l2 : ts2.length = i + 2 := by rw [lts2]; omega
      rw [sev sr2 l2] at eL2
      have gk2 : ((List.range (i + 2)).map (G (tidyN ps i)))[i + 1]? = some (G (tidyN ps i) (i + 1)) := by
        rw [List.getElem?_map, List.getElem?_range (by omega)]
        rfl
      have t05 := (t1.trans t2).trans s5
      refine ⟨_, rfl, L2, _, ((i + 1 : Nat) : Int), _, rfl, rfl, SqL.of eL2, atI_mapV (atI_nat gk2), _, _, rfl, rfl, _, rfl, ite2 (fun h => ?_) (fun h => ?_)⟩
      · have h := of_decide_eq_true h
        obtain ⟨ka, kxs, rfl, eka, oka⟩ := od_tup okv
        have lkx := oka.len
        rw [List.length_map, List.length_map] at lkx
        have := tidyN_len ps i
        refine ⟨_, rfl, _, rfl, _, rfl, _, rfl, L, _, ((i + 1 : Nat) : Int), _, rfl, rfl, SqL.of ((sx.trans t05) _ _ e4), atI_mapV (atI_nat gk), by show 2 ≤ sizeLine; omega, fun pa hpa => ?_⟩
        have q1 := same_upd (o := HO.tup [V.int ((i + 1 : Nat) : Int), V.int (G ps (i + 1))]) hpa
        refine ⟨by show 1 ≤ sizeLine; omega, fun pb hpb => ?_⟩
        have q2 := same_upd (o := HO.tup [V.ref pa]) hpb
        refine cat_tt ((t05.trans (q1.trans q2)) _ _ eka) upd_same (by show kxs.length + 1 ≤ sizeLine; omega) fun pc H6 s6 epc => gn ?_
        refine ⟨sx.trans ((t05.trans (q1.trans q2)).trans s6), _, _, rfl, ?_⟩
        have et : tidyN ps (i + 1) = tidyN ps i ++ [(((i + 1 : Nat) : Int), G ps (i + 1))] := by
          show (if _ then _ else _) = _
          rw [if_pos h]
        rw [et]
        show Od H6 (.ref pc) (.tuple (((tidyN ps i ++ [(((i + 1 : Nat) : Int), G ps (i + 1))]).map inD).map tw))
        rw [List.map_append, List.map_append]
        exact .tup epc ((oka.same ((t05.trans (q1.trans q2)).trans s6)).app (.cons (.tup ((q2.trans s6) _ _ upd_same) (.cons (.int _) (.cons (.int _) .nil))) .nil))
      · refine ⟨sx.trans t05, _, _, rfl, ?_⟩
        have et : tidyN ps (i + 1) = tidyN ps i := by
          show (if _ then _ else _) = _
          rw [if_neg fun z => h (decide_eq_true z)]
        rw [et]
        exact okv.same t05
    · rintro σ Hx ⟨sx, kv, v3, rfl, okv⟩
      exact ⟨_, rfl, k _ _ (s04.trans sx) okv⟩
end
end KP

set_option Elab.async false
set_option maxRecDepth 100000
set_option maxHeartbeats 4000000
set_option linter.all false
/-! Ours: math.lcm of small numbers; min(numbers, default=k). -/
namespace Gr
open PySem PySem.Spec PyProof.Rows L2 GxR
def rLcm : List V → Hp → VK → Prop := fun vs H Q => ∃ a b : Nat, vs = [.int (a : Nat), .int (b : Nat)] ∧ a ≤ 1000 ∧ b ≤ 1000 ∧ Q (.int ((Nat.lcm a b : Nat) : Int)) H
theorem lcm_le (a b : Nat) (ha : a ≤ 1000) (hb : b ≤ 1000) : Nat.lcm a b ≤ 1000000 := by
  refine Nat.le_trans (Nat.div_le_self _ _) ?_
  exact Nat.le_trans (Nat.mul_le_mul ha hb) (by decide)
theorem cr_lcm {X : Cx} : CallR X (.builtin "math.lcm") rLcm := by
  intro pins s σ H vs us Q I r h
  obtain ⟨a, b, rfl, ha, hb, q⟩ := h
  obtain ⟨t, u, rfl⟩ := Vals.int2 r
  have e : (Nat.lcm 1 ((a : Nat) : Int).natAbs).lcm ((b : Nat) : Int).natAbs = Nat.lcm a b := by
    rw [Nat.lcm_one_left]
    rfl
  have l := lcm_le a b ha hb
  refine PySem.W.mg_lcm_v (c := ((Nat.lcm a b : Nat) : Int)) (by show a < 2 ^ 64; omega) (by show b < 2 ^ 64; omega) (by rw [e]) ?_ ⟨.int _, H, I.tok _, ⟨_, rfl⟩, q⟩
  have h2 : ((Nat.lcm a b : Nat) : Int).natAbs.log2 ≤ 20 := PySem.W.mg_log (by show Nat.lcm a b < 2 ^ 21; omega)
  exact Nat.lt_of_le_of_lt h2 (by decide)
def minI (k : Int) : List Int → Int
  | [] => k
  | n :: ns => ns.foldl min n
def rMinK (K : PySem.W.Frag) : List V → List V → Hp → VK → Prop := fun vs zs H Q => ∃ (a : Addr) (ns : List Int) (k : Int), vs = [.ref a] ∧ zs = [.int k] ∧ SqL K H a (ns.map V.int) ∧ Q (.int (minI k ns)) H
theorem call_minK {X : Cx} (hd : X.A.handled = none) (hu : X.A.units + 64 < cLine) : CallRK X (.builtin "min") [("default" : Str)] (rMinK X.K) := by
  intro pins s σ H xs zs us ws Q I rx rz h
  obtain ⟨a, ns, k, rfl, rfl, hS, q⟩ := h
  obtain ⟨u, rfl, ru⟩ := vals1 rx
  obtain ⟨uw, rfl, rw2⟩ := vals1 rz
  cases ru
  obtain ⟨tk0, rfl⟩ := rw2
  obtain ⟨its, rv, pl, hz⟩ := I.list hS
  obtain ⟨as, ra⟩ := ints_reads (h := s.heap) rv
  refine PySem.W.min_list_default (xs := ns.map PyData.int) (d := .int k tk0) hd pl.isList (by exact ra) (ints_alike ns) (by have := ints_depth ns; omega) (fun e h' tk hk => ?_) (fun y ys i v h' tk bs e hv hr hk => ?_)
  · cases ns with
    | nil => exact ⟨.int k, H, I.kept (t' := tk) hk, ⟨_, rfl⟩, q⟩
    | cons n l => cases e
  · cases ns with
    | nil => cases e
    | cons n l =>
      have e1 : y = .int n := (List.cons.inj e).1.symm
      have e2 : ys = l.map PyData.int := (List.cons.inj e).2.symm
      subst e1
      subst e2
      rw [PySem.W.minD_ints] at hr
      cases hr
      exact ⟨.int _, H, I.kept (t' := tk) hk, ⟨_, rfl⟩, q⟩
end Gr

set_option Elab.async false
set_option maxRecDepth 100000
set_option maxHeartbeats 4000000
set_option linter.all false
/-! Ours: tidied, are_alike_limits, joined. -/
namespace KP
open PySem PySem.Spec PyProof.Rows L2 Gr GxR
/-- what is asked of an own exception class without words -/
structure ExcF (K : PySem.W.Frag) (mg : Str → Option Value) (n : Str) (C : Addr) : Prop where
  g : mg n = some (.ref C)
  x : PySem.W.excIn K C [.type "ValueError", .type "Exception", .type "BaseException", .type "object"] "ValueError.__new__" = true
  k : PySem.W.keepIn K (.ref C) = true
  b : PySem.W.subIn K (.ref C) (.type "BaseException") = some true
  t : PySem.W.typeIn K (.ref C) = some (.type "type")
  e : PySem.W.exmOne K (.ref C) (.ref C) = some true
theorem shp_lims (ps : List (Int × Int)) : Shp 5 (limsP ps) := shp_tup (k := 3) fun d hd => by
  obtain ⟨q, hq, rfl⟩ := List.mem_map.mp hd
  obtain ⟨p, _, rfl⟩ := List.mem_map.mp hq
  exact shp_tup (k := 1) fun d hd => by
    simp only [inD, List.mem_cons, List.not_mem_nil, or_false] at hd
    rcases hd with rfl | rfl <;> exact shp_int _
theorem eqvAll_lims : ∀ ps qs : List (Int × Int), PyData.eqvAll ((ps.map inD).map tw) ((qs.map inD).map tw) = decide (ps = qs)
  | [], [] => rfl
  | [], _ :: _ => rfl
  | _ :: _, [] => rfl
  | p :: ps, q :: qs => by
    have ih := eqvAll_lims ps qs
    have e1 : PyData.eqv (tw (inD p)) (tw (inD q)) = decide (p = q) := by
      show ((p.1 == q.1) && ((p.2 == q.2) && true)) = decide (p = q)
      rw [Bool.and_true, Bool.eq_iff_iff, Bool.and_eq_true, beq_iff_eq, beq_iff_eq, decide_eq_true_eq]
      exact ⟨fun h => Prod.ext h.1 h.2, fun h => h ▸ ⟨rfl, rfl⟩⟩
    show (PyData.eqv (tw (inD p)) (tw (inD q)) && PyData.eqvAll ((ps.map inD).map tw) ((qs.map inD).map tw)) = _
    rw [ih, e1, Bool.eq_iff_iff, Bool.and_eq_true, decide_eq_true_eq, decide_eq_true_eq, decide_eq_true_eq, List.cons.injEq]
theorem eqv_lims (ps qs : List (Int × Int)) : PyData.eqv (limsP ps) (limsP qs) = decide (ps = qs) := eqvAll_lims ps qs
theorem Lm.p1 {ps : List (Int × Int)} (h : Lm ps) : P1 ps := fun q hq => (h.2 q hq).1
theorem Lm.k6 {ps : List (Int × Int)} (h : Lm ps) : K6 ps := fun q hq => ⟨(h.2 q hq).1, (h.2 q hq).2.1⟩
theorem Lm.ld {ps : List (Int × Int)} (h : Lm ps) : limsD (limsP ps) = true := lims_good h.1 h.2
def spTidied (L : List Addr) : Sp := fun vs H Q _ => ∃ (lv : V) (ps : List (Int × Int)), vs = [lv] ∧ Od H lv (limsP ps) ∧ Lm ps ∧ Tb L H ∧ ∀ v H', UpL L H H' → Od H' v (limsP (tidyI ps)) → Q v H'
def spAlikeL (L : List Addr) : Sp := fun vs H Q _ => ∃ (lv ov : V) (ps qs : List (Int × Int)), vs = [lv, ov] ∧ Od H lv (limsP ps) ∧ Od H ov (limsP qs) ∧ Lm ps ∧ Lm qs ∧ Tb L H ∧ ∀ H', UpL L H H' → Q (.bl (decide (tidyI ps = tidyI qs))) H'
def spJoined (L : List Addr) (C : Addr) : Sp := fun vs H Q E => ∃ (lv ov : V) (ps qs : List (Int × Int)), vs = [lv, ov] ∧ Od H lv (limsP ps) ∧ Od H ov (limsP qs) ∧ Lm ps ∧ Lm qs ∧ Tb L H ∧
  ((tidyI (ps ++ qs)).length ≤ 4 → ∀ v H', UpL L H H' → Od H' v (limsP (tidyI (ps ++ qs))) → Q v H') ∧ (4 < (tidyI (ps ++ qs)).length → ∀ H', UpL L H H' → E (.ref C) none H')
section
variable {P : Program} {w : World} {K : PySem.W.Frag} {mg : Str → Option Value} {base : Heap} {C : Addr}
theorem sc_alikel : FnScope ["limits", "other"] ["limits", "other"] (defScope s_are_alike_limits) := ⟨rfl, rfl, rfl, by decide +kernel, rfl, by decide +kernel, by decide +kernel⟩
theorem ok_alikel (T : D K mg) (TB : Tabs base T) : FnOk P w K mg base CX0 7 T.f_are_alike_limits T.d_are_alike_limits ["limits", "other"] (spAlikeL (tabs T)) := by
  refine T.U_are_alike_limits.ok sc_alikel (fun vs H Q E h => ?_) (fun cdv A outer s H vs Q E hr h => ?_)
  · obtain ⟨lv, ov, ps, qs, rfl, _⟩ := h
    rfl
  · obtain ⟨lv, ov, ps, qs, rfl, hL, hO, lm, lq, hT, k⟩ := h
    have nd := sc_alikel.nd
    refine ⟨_, pss_cons (ps_expr (pe_call (ok_chk T TB) hr rfl T.g_check_limits T.U_check_limits.kp T.b_check_limits .nil pass0 (pa_cons (pv 0) pa_nil)))
      (pss_cons (ps_expr (pe_call (ok_chk T TB) hr rfl T.g_check_limits T.U_check_limits.kp T.b_check_limits .nil pass0 (pa_cons (pv 1) pa_nil)))
      (pss_one (ps_ret (pe_cmpR (op_eqD hr.units) (pe_call (ok_tidyp T) (hr.mono (by decide)) rfl T.g_tidied_pairs T.U_tidied_pairs.kp T.b_tidied_pairs .nil pass0 (pa_cons (pv 0) pa_nil)) (pe_call (ok_tidyp T) (hr.mono (by decide)) rfl T.g_tidied_pairs T.U_tidied_pairs.kp T.b_tidied_pairs .nil pass0 (pa_cons (pv 1) pa_nil)) (nomark _))))), ?_⟩
    refine ⟨_, rfl, lv, _, rfl, hL, lm.ld, hT, fun H1 u1 => ?_⟩
    have hL1 := hL.stay (u1.stay hT)
    have hO1 := hO.stay (u1.stay hT)
    refine ⟨_, rfl, ov, _, rfl, hO1, lq.ld, u1.1, fun H2 u2 => ?_⟩
    have u02 := u1.trans u2
    have := lm.1
    have := lq.1
    refine ⟨_, rfl, lv, ps, rfl, hL1.stay (u2.stay u1.1), by omega, lm.p1, fun v H3 s3 o3 => ?_⟩
    refine ⟨_, rfl, ov, qs, rfl, (hO1.stay (u2.stay u1.1)).same s3, by omega, lq.p1, fun v' H4 s4 o4 => ?_⟩
    refine ⟨_, _, (o3.same s4).dp (tupD_lims _), o4.dp (tupD_lims _), (shp_lims _).ok, (shp_lims _).ok, ?_⟩
    rw [eqv_lims]
    exact k H4 (u02.trans (.same u02.1 (s3.trans s4)))
end
end KP

set_option Elab.async false
set_option maxRecDepth 100000
set_option maxHeartbeats 4000000
set_option linter.all false
/-! Ours: mathematics: the shortest hours. -/
namespace KP
open PySem PySem.Spec PyProof.Rows L2 Gr GxR
def PerH (hs : List Int) (s : Nat) : Prop := (List.replicate (hs.length / s) (hs.take s)).flatten = hs
def LawH (hs : List Int) (s : Nat) : Prop := ∀ t : Nat, t < s * hs.length → openI hs t = openI (hs.take s) t
theorem flat_len {α : Type} (q : Nat) (xs : List α) : (List.replicate q xs).flatten.length = q * xs.length := by
  induction q with
  | zero => simp
  | succ q ih => rw [List.replicate_succ, List.flatten_cons, List.length_append, ih, Nat.succ_mul, Nat.add_comm]
theorem flat_get {α : Type} (xs : List α) : ∀ (q i : Nat), i < q * xs.length → (List.replicate q xs).flatten[i]? = xs[i % xs.length]?
  | 0, i, h => by omega
  | q + 1, i, h => by
    rw [Nat.succ_mul] at h
    rw [List.replicate_succ, List.flatten_cons]
    by_cases z : i < xs.length
    · rw [List.getElem?_append_left z, Nat.mod_eq_of_lt z]
    · rw [List.getElem?_append_right (by omega), flat_get xs q (i - xs.length) (by omega), ← Nat.mod_eq_sub_mod (by omega)]
theorem openI_nat (hs : List Int) (t : Nat) : openI hs t = (hs[t % hs.length]? == some 1) := by
  unfold openI
  have : ((t : Int) % ((hs.length : Nat) : Int)).toNat = t % hs.length := by
    rw [← Int.natCast_emod]
    exact Int.toNat_natCast _
  rw [this]
theorem take_len {hs : List Int} {s : Nat} (h : s ≤ hs.length) : (hs.take s).length = s := by rw [List.length_take]; omega
theorem per_dvd {hs : List Int} {s : Nat} (h1 : 1 ≤ s) (h2 : s ≤ hs.length) (h : PerH hs s) : hs.length = hs.length / s * s := by
  have := flat_len (hs.length / s) (hs.take s)
  rw [h, take_len h2] at this
  exact this
theorem per_open {hs : List Int} {s : Nat} (h1 : 1 ≤ s) (h2 : s ≤ hs.length) (h : PerH hs s) (t : Nat) : openI hs t = openI (hs.take s) t := by
  have d := per_dvd h1 h2 h
  have l0 : 0 < hs.length := by omega
  rw [openI_nat, openI_nat, take_len h2]
  have g := flat_get (hs.take s) (hs.length / s) (t % hs.length) (by rw [take_len h2, ← d]; exact Nat.mod_lt _ l0)
  rw [h, take_len h2, Nat.mod_mod_of_dvd t ⟨hs.length / s, by rw [Nat.mul_comm]; exact d⟩] at g
  rw [g]
theorem per_law {hs : List Int} {s : Nat} (h1 : 1 ≤ s) (h2 : s ≤ hs.length) (h : PerH hs s) : LawH hs s := fun t _ => per_open h1 h2 h t
/-- open and shut hours -/
def B01 (hs : List Int) : Prop := ∀ h ∈ hs, 0 ≤ h ∧ h ≤ 1
theorem get_open {hs : List Int} (hb : B01 hs) {i j : Nat} (hi : i < hs.length) (hj : j < hs.length) (h : openI hs i = openI hs j) : hs[i] = hs[j] := by
  rw [openI_nat, openI_nat, Nat.mod_eq_of_lt hi, Nat.mod_eq_of_lt hj, List.getElem?_eq_getElem hi, List.getElem?_eq_getElem hj] at h
  have a := hb _ (List.getElem_mem hi)
  have b := hb _ (List.getElem_mem hj)
  generalize hs[i] = x at *
  generalize hs[j] = y at *
  have h : (x == 1) = (y == 1) := h
  by_cases q : x = 1
  · rw [q] at h ⊢
    have : (y == 1) = true := h.symm.trans rfl
    exact (beq_iff_eq.mp this).symm
  · have q1 : (x == 1) = false := by simpa using q
    rw [q1] at h
    have q2 : y ≠ 1 := fun e => by rw [e] at h; cases h
    omega
def Pd (f : Nat → Bool) (p : Nat) : Prop := ∀ t, f (t + p) = f t
theorem Pd.mul {f : Nat → Bool} {p : Nat} (h : Pd f p) : ∀ k, Pd f (p * k)
  | 0 => fun t => by rw [Nat.mul_zero, Nat.add_zero]
  | k + 1 => fun t => by rw [Nat.mul_succ, ← Nat.add_assoc, h, h.mul k]
theorem Pd.mod {f : Nat → Bool} {p : Nat} (h : Pd f p) (t : Nat) : f t = f (t % p) := by
  have := h.mul (t / p) (t % p)
  rw [Nat.mod_add_div] at this
  exact this
theorem Pd.gcd {f : Nat → Bool} : ∀ (a b : Nat), Pd f a → Pd f b → Pd f (Nat.gcd a b) := fun a b => by
  induction a, b using Nat.gcd.induction with
  | H0 b => intro _ hb; rw [Nat.gcd_zero_left]; exact hb
  | H1 a b h0 ih =>
    intro ha hb
    rw [Nat.gcd_rec]
    refine ih (fun t => ?_) ha
    have e := ha.mul (b / a) (t + b % a)
    rw [Nat.add_assoc, Nat.mod_add_div] at e
    rw [← e, hb]
theorem pd_len (hs : List Int) : Pd (fun t : Nat => openI hs t) hs.length := fun t => by
  show openI hs ((t + hs.length : Nat) : Int) = openI hs (t : Int)
  rw [openI_nat, openI_nat, Nat.add_mod_right]
theorem law_pd {hs : List Int} {s : Nat} (h1 : 1 ≤ s) (h2 : s ≤ hs.length) (h : LawH hs s) : Pd (fun t : Nat => openI hs t) s := by
  have low : ∀ t, t < s * hs.length → openI hs (t : Nat) = openI hs ((t % s : Nat) : Int) := fun t ht => by
    rw [h t ht, openI_nat, openI_nat, take_len h2]
    have hl : t % s < s := Nat.mod_lt _ h1
    rw [List.getElem?_take_of_lt hl, Nat.mod_eq_of_lt (Nat.lt_of_lt_of_le hl h2)]
  have pl := pd_len hs
  intro t
  show openI hs ((t + s : Nat) : Int) = openI hs (t : Int)
  have l0 : 0 < hs.length := by omega
  have ml := Nat.mod_lt t l0
  have e1 : openI hs ((t + s : Nat) : Int) = openI hs ((t % hs.length + s : Nat) : Int) := by
    rw [openI_nat, openI_nat, Nat.mod_add_mod]
  have e2 : openI hs (t : Int) = openI hs ((t % hs.length : Nat) : Int) := pl.mod t
  rw [e1, e2]
  by_cases z : s = 1
  · subst z
    have c : ∀ x : Nat, openI hs (x : Int) = openI hs ((0 : Nat) : Int) := fun x => by
      have a : openI hs (x : Int) = openI hs ((x % hs.length : Nat) : Int) := pl.mod x
      rw [a, low _ (by rw [Nat.one_mul]; exact Nat.mod_lt _ l0), Nat.mod_one]
    rw [c, c (t % hs.length)]
  · have big : hs.length + s ≤ s * hs.length := by
      have : 2 ≤ s := by omega
      have : 2 ≤ hs.length := by omega
      obtain ⟨a, rfl⟩ : ∃ a, s = a + 2 := ⟨s - 2, by omega⟩
      obtain ⟨b, hb⟩ : ∃ b, hs.length = b + 2 := ⟨hs.length - 2, by omega⟩
      rw [hb]
      have : (a + 2) * (b + 2) = a * b + 2 * a + 2 * b + 4 := by
        rw [Nat.add_mul, Nat.mul_add, Nat.mul_add]
        omega
      have : 0 ≤ a * b := Nat.zero_le _
      omega
    rw [low _ (by omega), low (t % hs.length) (by omega), Nat.add_mod_right]
theorem pd_per {hs : List Int} (hb : B01 hs) {g : Nat} (h1 : 1 ≤ g) (hd : g ∣ hs.length) (h0 : 0 < hs.length) (h : Pd (fun t : Nat => openI hs t) g) : PerH hs g := by
  have h2 : g ≤ hs.length := Nat.le_of_dvd h0 hd
  have el : hs.length / g * g = hs.length := Nat.div_mul_cancel hd
  refine List.ext_getElem? fun i => ?_
  by_cases z : i < hs.length
  · have hl : i % g < g := Nat.mod_lt _ h1
    rw [flat_get _ _ _ (by rw [take_len h2, el]; exact z), take_len h2, List.getElem?_take_of_lt hl, List.getElem?_eq_getElem z, List.getElem?_eq_getElem (Nat.lt_of_lt_of_le hl h2)]
    have m : openI hs (i : Int) = openI hs ((i % g : Nat) : Int) := h.mod i
    rw [get_open hb z (Nat.lt_of_lt_of_le hl h2) m]
  · rw [List.getElem?_eq_none (by rw [flat_len, take_len h2, el]; omega), List.getElem?_eq_none (by omega)]
/-- the least size that fits -/
structure Fit (R : Nat → Prop) (m n : Nat) : Prop where
  lo : 1 ≤ n
  hi : n ≤ m
  ok : R n
  least : ∀ s, 1 ≤ s → s < n → ¬ R s
theorem fit_one {hs : List Int} (hb : B01 hs) (h0 : 0 < hs.length) {a b : Nat} (fa : Fit (PerH hs) hs.length a) (fb : Fit (LawH hs) hs.length b) : a = b := by
  have h1 : ¬ a < b := fun z => fb.least a fa.lo z (per_law fa.lo fa.hi fa.ok)
  have h2 : ¬ b < a := fun z => by
    have p := law_pd fb.lo fb.hi fb.ok
    have g := Pd.gcd b hs.length p (pd_len hs)
    have gp : 0 < Nat.gcd b hs.length := Nat.gcd_pos_of_pos_right _ h0
    have gl : Nat.gcd b hs.length ≤ b := Nat.le_of_dvd fb.lo (Nat.gcd_dvd_left _ _)
    exact fa.least _ gp (by omega) (pd_per hb gp (Nat.gcd_dvd_right _ _) h0 g)
  omega
theorem per_len {hs : List Int} (h0 : 0 < hs.length) : PerH hs hs.length := by
  unfold PerH
  rw [Nat.div_self h0, List.take_of_length_le (Nat.le_refl _)]
  simp
theorem law_len {hs : List Int} : LawH hs hs.length := fun t _ => by rw [List.take_of_length_le (Nat.le_refl _)]
/-- the least of the sizes that fit, told by a list of them -/
theorem fit_min {R : Nat → Prop} {m : Nat} (hm : 1 ≤ m) (hR : R m) {l : List Nat} (h : ∀ s, s ∈ l ↔ (1 ≤ s ∧ s < m ∧ R s)) : ∃ n : Nat, minI (m : Nat) (l.map fun s => ((s : Nat) : Int)) = (n : Nat) ∧ Fit R m n := by
  have key : ∀ (l : List Nat) (a : Nat), ∃ n, (l.map fun s => ((s : Nat) : Int)).foldl min ((a : Nat) : Int) = ((n : Nat) : Int) ∧ (n = a ∨ n ∈ l) ∧ n ≤ a ∧ ∀ s ∈ l, n ≤ s := fun l => by
    induction l with
    | nil => exact fun a => ⟨a, rfl, .inl rfl, Nat.le_refl _, fun _ h => nomatch h⟩
    | cons b l ih =>
      intro a
      obtain ⟨n, e, h1, h2, h3⟩ := ih (min a b)
      refine ⟨n, ?_, ?_, by omega, fun s hs => ?_⟩
      · rw [← e]
        show (l.map _).foldl min (min ((a : Nat) : Int) ((b : Nat) : Int)) = _
        congr 1
        omega
      · rcases h1 with h1 | h1
        · by_cases z : a ≤ b
          · exact .inl (by omega)
          · exact .inr (by rw [show n = b by omega]; exact List.mem_cons_self)
        · exact .inr (List.mem_cons_of_mem _ h1)
      · rcases List.mem_cons.mp hs with e | e
        · rw [e]; omega
        · exact h3 s e
  cases l with
  | nil => exact ⟨m, rfl, hm, Nat.le_refl _, hR, fun s h1 h2 hs => by have := (h s).mpr ⟨h1, h2, hs⟩; cases this⟩
  | cons a l =>
    obtain ⟨n, e, h1, h2, h3⟩ := key l a
    have hn : n ∈ a :: l := h1.elim (fun q => by rw [q]; exact List.mem_cons_self) fun q => List.mem_cons_of_mem _ q
    have hnr := (h n).mp hn
    refine ⟨n, e, hnr.1, by omega, hnr.2.2, fun s s1 s2 hs => ?_⟩
    have := (h s).mpr ⟨s1, by omega, hs⟩
    rcases List.mem_cons.mp this with q | q
    · omega
    · have := h3 s q
      omega
end KP

set_option Elab.async false
set_option maxRecDepth 100000
set_option maxHeartbeats 4000000
set_option linter.all false
/-! Ours: tidied_hours. -/
namespace KP
open PySem PySem.Spec PyProof.Rows L2 Gr GxR
abbrev hrsP (hs : List Int) : PyData := .tuple (hs.map PyData.int)
theorem sl_tupAB {X : Cx} {s : Shared} {H : Hp} {sc : Scope} {en : Env} {fp : List Addr} : SlR (X.blk s H sc en fp) (rSlA X.K) := sl_tupA
theorem op_repAB {X : Cx} {s : Shared} {H : Hp} {sc : Scope} {en : Env} {fp : List Addr} : OpR (X.blk s H sc en fp) (binaryOp .Mult) (rRepA X.K) := op_repA
theorem op_eqDB {X : Cx} {s : Shared} {H : Hp} {sc : Scope} {en : Env} {fp : List Addr} (hu : X.A.units + 64 < cLine) : OpR (X.blk s H sc en fp) (compareOp .Eq) (rEqD X.K) := op_eqD (X := X.blk s H sc en fp) hu
theorem eqv_ints : ∀ a b : List Int, PyData.eqvAll (a.map PyData.int) (b.map PyData.int) = decide (a = b)
  | [], [] => rfl
  | [], _ :: _ => rfl
  | _ :: _, [] => rfl
  | x :: a, y :: b => by
    have ih := eqv_ints a b
    show ((x == y) && PyData.eqvAll (a.map PyData.int) (b.map PyData.int)) = _
    rw [ih, Bool.eq_iff_iff, Bool.and_eq_true, beq_iff_eq, decide_eq_true_eq, decide_eq_true_eq, List.cons.injEq]
theorem shp_hrs (hs : List Int) : Shp 3 (hrsP hs) := shp_tup (k := 1) fun d hd => by
  obtain ⟨q, _, rfl⟩ := List.mem_map.mp hd
  exact shp_int _
structure Hrs (hs : List Int) : Prop where
  h0 : 0 < hs.length
  h1 : hs.length ≤ 12
  d : B01 hs
  one : ∃ j : Nat, ∃ h : j < hs.length, hs[j] = 1
theorem Hrs.good {hs : List Int} (h : Hrs hs) : Good [] hs := ⟨Nat.zero_le _, (fun _ z => nomatch z), h.h0, h.h1, h.d, h.one⟩
theorem Hrs.goodP {ps : List (Int × Int)} {hs : List Int} (h : Hrs hs) (l : Lm ps) : Good ps hs := ⟨l.1, l.2, h.h0, h.h1, h.d, h.one⟩
theorem flat_mapV (q : Nat) (xs : List Int) : (List.replicate q (xs.map V.int)).flatten = ((List.replicate q xs).flatten).map V.int := by
  induction q with
  | zero => rfl
  | succ q ih => rw [List.replicate_succ, List.replicate_succ, List.flatten_cons, List.flatten_cons, ih, List.map_append]
instance (hs : List Int) (s : Nat) : Decidable (PerH hs s) := inferInstanceAs (Decidable (_ = _))
def spTidyH (L : List Addr) : Sp := fun vs H Q _ => ∃ (hv : V) (hs : List Int), vs = [hv] ∧ Od H hv (hrsP hs) ∧ Hrs hs ∧ Tb L H ∧ ∀ v H' (n : Nat), UpL L H H' → Fit (PerH hs) hs.length n → Od H' v (hrsP (hs.take n)) → Q v H'
section
variable {P : Program} {w : World} {K : PySem.W.Frag} {mg : Str → Option Value} {base : Heap} {C : Addr}
end
end KP

set_option Elab.async false
set_option maxRecDepth 100000
set_option maxHeartbeats 4000000
set_option linter.all false
/-! Ours: rules that are stricter. -/
namespace KP
open PySem PySem.Spec PyProof.Rows L2 Gr GxR
/-- whenever the first are open, so are the others -/
def OpS (hs os : List Int) : Prop := ∀ t : Nat, openI hs t = true → openI os t = true
/-- no more asks than the others let, from each moment -/
def Few (ps : List (Int × Int)) (hs : List Int) (qs : List (Int × Int)) : Prop := ∀ st : Nat, st < hs.length → ∀ q ∈ qs, ∀ n : Nat, Mst ps hs st ((st : Int) + q.2) n → (n : Int) ≤ q.1
def spRWC : Sp := fun vs H Q _ => ∃ (hv ov : V) (hs os : List Int), vs = [hv, ov] ∧ Od H hv (hrsP hs) ∧ Od H ov (hrsP os) ∧ Hrs hs ∧ Hrs os ∧ OpS hs os ∧ Q .non H
def spRTM : Sp := fun vs H Q _ => ∃ (rv lv : V) (ps qs : List (Int × Int)) (hs : List Int), vs = [rv, lv] ∧ Od H rv (rulesP ps hs) ∧ Od H lv (limsP qs) ∧ Lm ps ∧ ps ≠ [] ∧ Hrs hs ∧ Lm qs ∧ Few ps hs qs ∧ ∀ H', Same H H' → Q .non H'
def spLoose (L : List Addr) (r : V) : Sp := fun vs H Q _ => ∃ (rv ov : V) (ps qs : List (Int × Int)) (hs os : List Int), vs = [rv, ov] ∧ Od H rv (rulesP ps hs) ∧ Od H ov (rulesP qs os) ∧ Lm ps ∧ ps ≠ [] ∧ Hrs hs ∧ Lm qs ∧ Hrs os ∧ OpS hs os ∧ Few ps hs qs ∧ Tb L H ∧ ∀ H', UpL L H H' → Q r H'
def spAlikeR (L : List Addr) : Sp := fun vs H Q _ => ∃ (rv ov : V) (ps qs : List (Int × Int)) (hs os : List Int), vs = [rv, ov] ∧ Od H rv (rulesP ps hs) ∧ Od H ov (rulesP qs os) ∧ Lm ps ∧ ps ≠ [] ∧ Hrs hs ∧ Lm qs ∧ qs ≠ [] ∧ Hrs os ∧ OpS hs os ∧ Few ps hs qs ∧ OpS os hs ∧ Few qs os ps ∧ Tb L H ∧ ∀ H', UpL L H H' → Q (.bl true) H'
theorem od_rules {H : Hp} {v : V} {ps : List (Int × Int)} {hs : List Int} (h : Od H v (rulesP ps hs)) : ∃ a lv hv, v = .ref a ∧ H a = some (.tup [lv, hv]) ∧ Od H lv (limsP ps) ∧ Od H hv (hrsP hs) := by
  obtain ⟨a, xs, rfl, e, o⟩ := od_tup h
  match xs, o with
  | [lv, hv], .cons a1 (.cons a2 .nil) => exact ⟨a, lv, hv, rfl, e, a1, a2⟩
section
variable {P : Program} {w : World} {K : PySem.W.Frag} {mg : Str → Option Value} {base : Heap} {C : Addr}
theorem sc_rwc : FnScope ["hours", "other", "moment"] ["hours", "other"] (defScope s_row_while_closed) := ⟨rfl, rfl, rfl, by decide +kernel, rfl, by decide +kernel, by decide +kernel⟩
theorem ok_rwc (T : D K mg) : FnOk P w K mg base CX0 2 T.f_row_while_closed T.d_row_while_closed ["hours", "other"] spRWC := by
  refine T.U_row_while_closed.ok sc_rwc (fun vs H Q E h => ?_) (fun cdv A outer s H vs Q E hr h => ?_)
  · obtain ⟨hv, ov, hs, os, rfl, _⟩ := h
    rfl
  · obtain ⟨hv, ov, hs, os, rfl, hH, hO, g1, g2, op, k⟩ := h
    have nd := sc_rwc.nd
    refine ⟨_, pss_cons (ps_for PassesOwn.never rfl (pi_range1 rfl T.range (pa_cons (pe_callBfun cr_lcm (by rfl) T.i_lcm (pa_cons (pe_callB call_len_seq (by rfl) T.len PySem.boot_len (pa_cons (pv 0) pa_nil)) (pa_cons (pe_callB call_len_seq (by rfl) T.len PySem.boot_len (pa_cons (pv 1) pa_nil)) pa_nil))) pa_nil)) (pg_name (i := 2) nd rfl (.inl rfl))
        (pss_one (ps_if (PW.pt (pw_and (pt_val (pe_call (ok_opens T) hr rfl T.g_opens T.U_opens.kp T.b_opens .nil pass0 (pa_cons (pv 0) (pa_cons (pv 2) pa_nil)))) (pw_and1 (pt_not (pt_val (pe_call (ok_opens T) hr rfl T.g_opens T.U_opens.kp T.b_opens .nil pass0 (pa_cons (pv 1) (pa_cons (pv 2) pa_nil))))))))
          (pss_one (ps_ret (pe_tup (pa_cons (pv 2) pa_nil))))
          (pss_nil))))
      (pss_one (ps_ret pe_non)), ?_⟩
    obtain ⟨ha, rfl, eh⟩ := od_I hH
    obtain ⟨oa, rfl, eo⟩ := od_I hO
    have h12 := g1.h1
    have o12 := g2.h1
    refine ⟨_, rfl, ha, _, rfl, .inr (SqT.of eh), _, rfl, oa, _, rfl, .inr (SqT.of eo), _, _, rfl, by rw [List.length_map]; omega, by rw [List.length_map]; omega, ?_⟩
    have ll := lcm_le (hs.map V.int).length (os.map V.int).length (by rw [List.length_map]; omega) (by rw [List.length_map]; omega)
    refine ⟨_, rfl, by omega, by omega, for_range (n := _) (fun i σ Hx => Hx = H ∧ ∃ v2 : Option V, σ = [some (.ref ha), some (.ref oa), v2]) ⟨rfl, _, rfl⟩ ?_ ?_⟩
    · rintro i σ Hx hi ⟨rfl, v2, rfl⟩
      refine gn ?_
      dsimp only [List.set]
      have ei : (0 : Int) + (i : Int) = ((i : Nat) : Int) := by omega
      rw [ei]
      refine ⟨_, rfl, _, rfl, _, hs, _, rfl, hH, g1.h0, _, rfl, ite2 (fun h => ?_) (fun h => iteF (next_of ⟨rfl, _, rfl⟩))⟩
      refine ⟨_, rfl, _, rfl, _, os, _, rfl, hO, g2.h0, _, rfl, ?_⟩
      rw [op i h]
      exact iteF (next_of ⟨rfl, _, rfl⟩)
    · rintro σ Hx ⟨rfl, v2, rfl⟩
      exact k
theorem sc_rtm : FnScope ["rules", "limits", "start", "most", "wide", "told"] ["rules", "limits"] (defScope s_row_of_too_many) := ⟨rfl, rfl, rfl, by decide +kernel, rfl, by decide +kernel, by decide +kernel⟩
theorem ok_rtm (T : D K mg) : FnOk P w K mg base CX0 5 T.f_row_of_too_many T.d_row_of_too_many ["rules", "limits"] spRTM := by
  refine T.U_row_of_too_many.ok sc_rtm (fun vs H Q E h => ?_) (fun cdv A outer s H vs Q E hr h => ?_)
  · obtain ⟨rv, lv, ps, qs, hs, rfl, _⟩ := h
    rfl
  · obtain ⟨rv, lv, ps, qs, hs, rfl, hR, hL, lp, ne, gh, lq, few, k⟩ := h
    have nd := sc_rtm.nd
    refine ⟨_, pss_cons (ps_for PassesOwn.never rfl (pi_range1 rfl T.range (pa_cons (pe_callB call_len_seq (by rfl) T.len PySem.boot_len (pa_cons (pe_ix ix_tup (pv 0) pe_int (fun _ _ => rfl)) pa_nil)) pa_nil)) (pg_name (i := 2) nd rfl (.inl rfl))
        (pss_one (ps_for PassesOwn.never rfl (pi_tup (pv 1)) (pg_tup rfl (pgs_cons (pg_name (i := 3) nd rfl (.inl rfl)) (pgs_cons (pg_name (i := 4) nd rfl (.inl rfl)) pgs_nil)))
          (pss_cons (ps_set (i := 5) nd rfl (.inl rfl) (pe_call (ok_mostb T) hr rfl T.g_most_between T.U_most_between.kp T.b_most_between .nil pass0 (pa_cons (pv 0) (pa_cons (pv 2) (pa_cons (pe_op op_add (pv 2) (pv 4)) pa_nil)))))
          (pss_one (ps_if (PW.pt (pw_or (pt_cmpR op_isN (pv 5) pe_non (nomark _)) (pw_or1 (pt_cmpR op_gt (pv 5) (pv 3) (nomark _)))))
            (pss_one (ps_ret (pe_callTy call_tuple_of (by rfl) T.tuple (by decide +kernel) (pa_cons (pe_call (ok_soonK T) hr rfl T.g_soonest_asks T.U_soonest_asks.kp T.b_soonest_asks .nil pass0 (pa_cons (pv 0) (pa_cons (pe_tup pa_nil) (pa_cons (pe_op op_add (pv 3) pe_int) (pa_cons (pv 2) pa_nil))))) pa_nil))))
            (pss_nil)))))))
      (pss_one (ps_ret pe_non)), ?_⟩
    obtain ⟨ra, av, hv, rfl, er, oa, oh⟩ := od_rules hR
    obtain ⟨ha, rfl, eh⟩ := od_I oh
    obtain ⟨la, ls, rfl, el, ol⟩ := od_tup hL
    have lls : ls.length = qs.length := by rw [ol.len, List.length_map, List.length_map]
    have h12 := gh.h1
    have hr0 : RulV K H (.ref ra) ps hs := rulV_of hR
    refine ⟨_, rfl, ra, _, 1, _, rfl, rfl, SqT.of er, rfl, ha, _, rfl, .inr (SqT.of eh), ?_⟩
    rw [List.length_map]
    refine ⟨_, rfl, by omega, by omega, for_range (n := hs.length) (fun i σ Hx => Same H Hx ∧ ∃ v2 v3 v4 v5 : Option V, σ = [some (.ref ra), some (.ref la), v2, v3, v4, v5]) ⟨.refl _, _, _, _, _, rfl⟩ ?_ ?_⟩
    · rintro i σ Hx hi ⟨sx, v2, v3, v4, v5, rfl⟩
      refine gn ?_
      dsimp only [List.set]
      have ei : (0 : Int) + (i : Int) = ((i : Nat) : Int) := by omega
      rw [ei]
      refine ⟨_, rfl, la, rfl, ⟨_, SqT.of (sx _ _ el)⟩, for_tup (K := K) (a := la) (xs := ls) (fun m σ Hy => Same H Hy ∧ ∃ v3 v4 v5 : Option V, σ = [some (.ref ra), some (.ref la), some (.int ((i : Nat) : Int)), v3, v4, v5]) ⟨sx, _, _, _, rfl⟩ (fun m σ Hy _ z => SqT.of (z.1 _ _ el)) ?_ ?_⟩
      · rintro m x σ Hy hx ⟨sy, v3, v4, v5, rfl⟩
        obtain ⟨q, b, hq, rfl, eb⟩ := pair_at ol hx
        have hqm := List.mem_of_getElem? hq
        have lqq := lq.2 q hqm
        refine ⟨b, _, rfl, SqT.of (sy _ _ eb), rfl, _, _, rfl, _, _, rfl, rfl, ?_⟩
        dsimp only [List.set]
        refine ⟨_, rfl, _, rfl, _, rfl, _, rfl, _, _, rfl, rfl, _, _, _, ps, hs, rfl, rulV_same sy hr0, lp.1, lp.c, gh.one, by omega, fun v H2 mv s2 => gn ?_⟩
        dsimp only [List.set]
        rcases mv with ⟨e, _⟩ | ⟨_, n, rfl, ms⟩
        · exact absurd e ne
        · have fw := few i hi q hqm n ms
          refine ⟨_, rfl, rfl, _, rfl, iteF ?_⟩
          refine ⟨_, rfl, _, rfl, _, _, rfl, rfl, _, rfl, ?_⟩
          rw [decide_eq_false (by omega)]
          exact iteF (next_of ⟨sy.trans s2, _, _, _, rfl⟩)
      · rintro σ Hy ⟨sy, v3, v4, v5, rfl⟩
        exact ⟨sy, _, _, _, _, rfl⟩
    · rintro σ Hx ⟨sx, v2, v3, v4, v5, rfl⟩
      exact k _ sx
theorem sc_loose : FnScope ["rules", "other", "row"] ["rules", "other"] (defScope s_loose_row) := ⟨rfl, rfl, rfl, by decide +kernel, rfl, by decide +kernel, by decide +kernel⟩
theorem ok_loose (T : D K mg) (TB : Tabs base T) : FnOk P w K mg base CX0 8 T.f_loose_row T.d_loose_row ["rules", "other"] (spLoose (tabs T) .non) := by
  refine T.U_loose_row.ok sc_loose (fun vs H Q E h => ?_) (fun cdv A outer s H vs Q E hr h => ?_)
  · obtain ⟨rv, ov, ps, qs, hs, os, rfl, _⟩ := h
    rfl
  · obtain ⟨rv, ov, ps, qs, hs, os, rfl, hR, hO, lp, ne, gh, lq, go, op, few, hT, k⟩ := h
    have nd := sc_loose.nd
    refine ⟨_, pss_cons (ps_expr (pe_call (ok_ckr T TB) hr rfl T.g_check_rules T.U_check_rules.kp T.b_check_rules .nil pass0 (pa_cons (pv 0) pa_nil)))
      (pss_cons (ps_expr (pe_call (ok_ckr T TB) hr rfl T.g_check_rules T.U_check_rules.kp T.b_check_rules .nil pass0 (pa_cons (pv 1) pa_nil)))
      (pss_cons (ps_set (i := 2) nd rfl (.inl rfl) (pe_call (ok_rwc T) (hr.mono (by decide)) rfl T.g_row_while_closed T.U_row_while_closed.kp T.b_row_while_closed .nil pass0 (pa_cons (pe_ix ix_tup (pv 0) pe_int (fun _ _ => rfl)) (pa_cons (pe_ix ix_tup (pv 1) pe_int (fun _ _ => rfl)) pa_nil))))
      (pss_cons (ps_if (pt_cmpR op_isN (pv 2) pe_non (nomark _))
        (pss_one (ps_set (i := 2) nd rfl (.inl rfl) (pe_call (ok_rtm T) (hr.mono (by decide)) rfl T.g_row_of_too_many T.U_row_of_too_many.kp T.b_row_of_too_many .nil pass0 (pa_cons (pv 0) (pa_cons (pe_ix ix_tup (pv 1) pe_int (fun _ _ => rfl)) pa_nil)))))
        (pss_nil))
      (pss_one (ps_ret (pv 2)))))), ?_⟩
    refine ⟨_, rfl, rv, _, rfl, hR, (gh.goodP lp).rules, hT, fun H1 u1 => ?_⟩
    have hR1 := hR.stay (u1.stay hT)
    have hO1 := hO.stay (u1.stay hT)
    refine ⟨_, rfl, ov, _, rfl, hO1, (go.goodP lq).rules, u1.1, fun H2 u2 => ?_⟩
    have hR2 := hR1.stay (u2.stay u1.1)
    have hO2 := hO1.stay (u2.stay u1.1)
    have u02 := u1.trans u2
    obtain ⟨ra, rl, rh, rfl, er, orl, orh⟩ := od_rules hR2
    obtain ⟨oa, ol, oh, rfl, eo, ool, ooh⟩ := od_rules hO2
    refine ⟨_, rfl, ra, _, 1, rh, rfl, rfl, SqT.of er, rfl, _, rfl, oa, _, 1, oh, rfl, rfl, SqT.of eo, rfl, _, _, hs, os, rfl, orh, ooh, gh, go, op, gn ?_⟩
    dsimp only [List.set]
    refine ⟨_, rfl, rfl, _, rfl, iteT ?_⟩
    refine ⟨_, rfl, _, rfl, oa, _, 0, ol, rfl, rfl, SqT.of eo, rfl, _, _, ps, qs, hs, rfl, hR2, ool, lp, ne, gh, lq, few, fun H3 s3 => gn ?_⟩
    exact ⟨_, rfl, k H3 (u02.trans (.same u02.1 s3))⟩
theorem sc_stricter : FnScope ["rules", "other"] ["rules", "other"] (defScope s_is_stricter) := ⟨rfl, rfl, rfl, by decide +kernel, rfl, by decide +kernel, by decide +kernel⟩
theorem ok_stricter (T : D K mg) (TB : Tabs base T) : FnOk P w K mg base CX0 9 T.f_is_stricter T.d_is_stricter ["rules", "other"] (spLoose (tabs T) (.bl true)) := by
  refine T.U_is_stricter.ok sc_stricter (fun vs H Q E h => ?_) (fun cdv A outer s H vs Q E hr h => ?_)
  · obtain ⟨rv, ov, ps, qs, hs, os, rfl, _⟩ := h
    rfl
  · obtain ⟨rv, ov, ps, qs, hs, os, rfl, hR, hO, lp, ne, gh, lq, go, op, few, hT, k⟩ := h
    refine ⟨_, pss_one (ps_ret (pe_cmpR op_isN (pe_call (ok_loose T TB) hr rfl T.g_loose_row T.U_loose_row.kp T.b_loose_row .nil pass0 (pa_cons (pv 0) (pa_cons (pv 1) pa_nil))) pe_non (nomark _))), ?_⟩
    exact ⟨_, rfl, _, rfl, rv, ov, ps, qs, hs, os, rfl, hR, hO, lp, ne, gh, lq, go, op, few, hT, fun H' u => ⟨rfl, k H' u⟩⟩
theorem sc_aliker : FnScope ["rules", "other"] ["rules", "other"] (defScope s_are_alike_rules) := ⟨rfl, rfl, rfl, by decide +kernel, rfl, by decide +kernel, by decide +kernel⟩
theorem ok_aliker (T : D K mg) (TB : Tabs base T) : FnOk P w K mg base CX0 10 T.f_are_alike_rules T.d_are_alike_rules ["rules", "other"] (spAlikeR (tabs T)) := by
  refine T.U_are_alike_rules.ok sc_aliker (fun vs H Q E h => ?_) (fun cdv A outer s H vs Q E hr h => ?_)
  · obtain ⟨rv, ov, ps, qs, hs, os, rfl, _⟩ := h
    rfl
  · obtain ⟨rv, ov, ps, qs, hs, os, rfl, hR, hO, lp, ne, gh, lq, nq, go, op, few, op2, few2, hT, k⟩ := h
    refine ⟨_, pss_one (ps_ret (pe_and (pe_call (ok_stricter T TB) hr rfl T.g_is_stricter T.U_is_stricter.kp T.b_is_stricter .nil pass0 (pa_cons (pv 0) (pa_cons (pv 1) pa_nil))) (pe_one (pe_call (ok_stricter T TB) hr rfl T.g_is_stricter T.U_is_stricter.kp T.b_is_stricter .nil pass0 (pa_cons (pv 1) (pa_cons (pv 0) pa_nil)))))), ?_⟩
    refine ⟨_, rfl, _, rfl, rv, ov, ps, qs, hs, os, rfl, hR, hO, lp, ne, gh, lq, go, op, few, hT, fun H1 u1 => ⟨true, rfl, iteT ?_⟩⟩
    exact ⟨_, rfl, _, rfl, ov, rv, qs, ps, os, hs, rfl, hO.stay (u1.stay hT), hR.stay (u1.stay hT), lq, nq, go, lp, gh, op2, few2, u1.1, fun H2 u2 => k H2 (u1.trans u2)⟩
end
end KP

set_option Elab.async false
set_option maxRecDepth 100000
set_option linter.all false
/-! Ours: rows by their counts: the mathematics of _law_best. -/
namespace KP
open PySem PySem.Spec PyProof.Rows L2 Gr GxR
structure RowP (ps : List (Int × Int)) (hs : List Int) (st e : Int) (rs : List Int) : Prop where
  srt : Srt rs
  lo : ∀ x ∈ rs, st ≤ x
  hi : ∀ x ∈ rs, x < e
  opn : ∀ x ∈ rs, openI hs x = true
  pol : ∀ (i : Nat) (h : i < rs.length), ps.all (apI (rs.take i) rs[i]) = true
/-- the counts of the last three moments, the newest first -/
def keyI (rs : List Int) (st : Int) (s : Nat) : List Int := (List.range (min 3 s)).map fun (j : Nat) => ((rs.count (st + s - 1 - j) : Nat) : Int)
theorem take_sum {ps : List (Int × Int)} {hs : List Int} {st : Int} {s : Nat} {rs : List Int} (r : RowP ps hs st (st + s) rs) : ∀ m : Nat, m ≤ 3 → ((keyI rs st s).take m).sum = ((above (st + s - 1 - (m : Int)) rs : Nat) : Int)
  | 0, _ => by
    rw [above_none fun x hx => by have := r.hi x hx; omega]
    rfl
  | m + 1, h => by
    have ih := take_sum r m (by omega)
    have e1 : above (st + s - 1 - ((m + 1 : Nat) : Int)) rs = above (st + s - 1 - (m : Int)) rs + rs.count (st + s - 1 - (m : Int)) := by
      rw [← above_step, show st + (s : Int) - 1 - ((m + 1 : Nat) : Int) = st + s - 1 - (m : Int) - 1 by omega]
    rw [e1]
    by_cases z : m < s
    · have hl : m < (keyI rs st s).length := by
        unfold keyI
        rw [List.length_map, List.length_range]
        omega
      rw [List.take_add_one, List.getElem?_eq_getElem hl]
      have e2 : (keyI rs st s)[m] = ((rs.count (st + s - 1 - (m : Int)) : Nat) : Int) := by
        simp [keyI]
      rw [e2]
      simp only [Option.toList_some, List.sum_append, List.sum_cons, List.sum_nil]
      omega
    · have hl : (keyI rs st s).length ≤ m := by
        unfold keyI
        rw [List.length_map, List.length_range]
        omega
      rw [List.take_of_length_le (by omega)]
      rw [List.take_of_length_le hl] at ih
      have e3 : rs.count (st + s - 1 - (m : Int)) = 0 := List.count_eq_zero.mpr fun hx => by
        have := r.lo _ hx
        omega
      rw [e3, ih]
      rfl
theorem key_step {ps : List (Int × Int)} {hs : List Int} {st : Int} {s : Nat} {rs : List Int} (r : RowP ps hs st (st + s) rs) (c : Nat) : keyI (rs ++ List.replicate c (st + s)) st (s + 1) = ((c : Int) :: keyI rs st s).take 3 := by
  unfold keyI
  rw [show min 3 (s + 1) = min 2 s + 1 by omega, List.range_succ_eq_map, List.map_cons, List.take_succ_cons, ← List.map_take, List.take_range, List.map_map]
  congr 1
  · rw [List.count_append, show st + ((s + 1 : Nat) : Int) - 1 - ((0 : Nat) : Int) = st + s by omega, List.count_replicate_self, List.count_eq_zero.mpr (fun hx => by have := r.hi _ hx; omega)]
    simp
  · rw [show min 2 (min 3 s) = min 2 s by omega]
    refine List.map_congr_left fun j _ => ?_
    show ((List.count (st + ((s + 1 : Nat) : Int) - 1 - ((j + 1 : Nat) : Int)) _ : Nat) : Int) = _
    rw [List.count_append, show st + ((s + 1 : Nat) : Int) - 1 - ((j + 1 : Nat) : Int) = st + s - 1 - j by omega, List.count_replicate, if_neg (by simp; omega), Nat.add_zero]
theorem srt_app {ns ms : List Int} (h : Srt ns) (h2 : Srt ms) (h3 : ∀ x ∈ ns, ∀ y ∈ ms, x ≤ y) : Srt (ns ++ ms) := fun i j hi hj hij => by
  rw [List.length_append] at hi hj
  by_cases z1 : i < ns.length
  · rw [List.getElem_append_left z1]
    by_cases z2 : j < ns.length
    · rw [List.getElem_append_left z2]
      exact h i j z1 z2 hij
    · rw [List.getElem_append_right (by omega)]
      exact h3 _ (List.getElem_mem _) _ (List.getElem_mem _)
  · rw [List.getElem_append_right (by omega), List.getElem_append_right (by omega)]
    exact h2 _ _ (by omega) (by omega) (by omega)
theorem srt_rep (c : Nat) (t : Int) : Srt (List.replicate c t) := fun i j hi hj _ => by
  rw [List.getElem_replicate, List.getElem_replicate]
  exact Int.le_refl _
theorem above_app (c : Int) (a b : List Int) : above c (a ++ b) = above c a + above c b := by
  unfold above
  exact List.countP_append
/-- one more moment, asked c times -/
theorem RowP.grow {ps : List (Int × Int)} {hs : List Int} {st : Int} {s : Nat} {rs : List Int} (r : RowP ps hs st (st + s) rs) (hp : ∀ p ∈ ps, 1 ≤ p.1 ∧ 1 ≤ p.2) {c : Nat} (ho : 0 < c → openI hs (st + s) = true)
    (hw : ∀ p ∈ ps, (c : Int) + ((above (st + s - p.2) rs : Nat) : Int) ≤ p.1) : RowP ps hs st (st + ((s + 1 : Nat) : Int)) (rs ++ List.replicate c (st + s)) where
  srt := srt_app r.srt (srt_rep _ _) fun x hx y hy => by
    rw [List.eq_of_mem_replicate hy]
    have := r.hi x hx
    omega
  lo := fun x hx => by
    rcases List.mem_append.mp hx with h | h
    · exact r.lo x h
    · rw [List.eq_of_mem_replicate h]; omega
  hi := fun x hx => by
    rcases List.mem_append.mp hx with h | h
    · have := r.hi x h; omega
    · rw [List.eq_of_mem_replicate h]; omega
  opn := fun x hx => by
    rcases List.mem_append.mp hx with h | h
    · exact r.opn x h
    · rw [List.eq_of_mem_replicate h]
      refine ho ?_
      cases c with
      | zero => cases h
      | succ c => exact Nat.succ_pos _
  pol := fun i hi => by
    rw [List.length_append, List.length_replicate] at hi
    by_cases z : i < rs.length
    · rw [List.getElem_append_left z, List.take_append_of_le_length (by omega)]
      exact r.pol i z
    · rw [List.getElem_append_right (by omega), List.getElem_replicate, List.take_append, List.take_of_length_le (by omega), List.take_replicate]
      refine List.all_eq_true.mpr fun p hp' => ?_
      have hq := hp p hp'
      have sr : Srt (rs ++ List.replicate (min (i - rs.length) c) (st + (s : Int))) := srt_app r.srt (srt_rep _ _) fun x hx y hy => by
        rw [List.eq_of_mem_replicate hy]
        have := r.hi x hx
        omega
      rw [ap_count sr hq.1, above_app, above_all (ns := List.replicate _ _) (fun x hx => by rw [List.eq_of_mem_replicate hx]; omega), List.length_replicate]
      refine decide_eq_true ?_
      have := hw p hp'
      omega
theorem RowP.take {ps : List (Int × Int)} {hs : List Int} {st e : Int} {rs : List Int} (r : RowP ps hs st e rs) (k : Nat) : RowP ps hs st e (rs.take k) :=
  ⟨srt_take r.srt k, fun x hx => r.lo x (List.mem_of_mem_take hx), fun x hx => r.hi x (List.mem_of_mem_take hx), fun x hx => r.opn x (List.mem_of_mem_take hx), fun i hi => by
    rw [List.length_take] at hi
    rw [List.getElem_take, List.take_take, show min i k = i by omega]
    exact r.pol i (by omega)⟩
/-- a row's window is never too full -/
theorem RowP.full {ps : List (Int × Int)} {hs : List Int} {st e : Int} {rs : List Int} (r : RowP ps hs st e rs) {p : Int × Int} (hp : p ∈ ps) (h1 : 1 ≤ p.1 ∧ 1 ≤ p.2) {x : Int} (hx : ∀ y ∈ rs, y ≤ x) : ((above (x - p.2) rs : Nat) : Int) ≤ p.1 := by
  by_cases z : rs.length = 0
  · rw [List.eq_nil_of_length_eq_zero z]
    show (0 : Int) ≤ _
    omega
  · have hl : rs.length - 1 < rs.length := by omega
    have a := List.all_eq_true.mp (r.pol (rs.length - 1) hl) p hp
    rw [ap_count (srt_take r.srt _) h1.1] at a
    have a := of_decide_eq_true a
    have le := hx _ (List.getElem_mem hl)
    have mono : ∀ {c d : Int}, c ≤ d → above d rs ≤ above c rs := fun {c d} h => List.countP_mono_left fun y _ hy => decide_eq_true (by have := of_decide_eq_true hy; omega)
    have m := mono (c := rs[rs.length - 1] - p.2) (d := x - p.2) (by omega)
    have e1 := above_split (rs[rs.length - 1] - p.2) rs (rs.length - 1)
    have e2 := above_le (rs[rs.length - 1] - p.2) (rs.drop (rs.length - 1))
    rw [List.length_drop] at e2
    omega
theorem RowP.of {ps : List (Int × Int)} {hs ts : List Int} {st e : Int} (sr : SRow ps hs [] st ts) (h : ∀ x ∈ ts, x < e) : RowP ps hs st e ts :=
  ⟨row_srt0 sr, row_from sr, h, fun x hx => by
    obtain ⟨i, hi, rfl⟩ := List.getElem_of_mem hx
    exact (sr i hi).opn, fun i hi => (sr i hi).all⟩
/-- no row has more asks than the row of the next ones -/
theorem row_most {ps : List (Int × Int)} {hs : List Int} {st e : Int} {n : Nat} {rs : List Int} (hp : ∀ p ∈ ps, 1 ≤ p.1) (ho : ∃ j : Nat, ∃ h : j < hs.length, hs[j] = 1) (m : Mst ps hs st e n) (r : RowP ps hs st e rs) : rs.length ≤ n := by
  obtain ⟨us, k1, k2, k3, k4⟩ := m
  by_cases z : rs.length ≤ n
  · exact z
  · have step : ∀ (i : Nat) (t : Int), (hu : i ≤ us.length) → (hi : i < rs.length) → IsNxt ps hs (us.take i) st t → (∀ (j : Nat) (h : j < i), us[j]'(by omega) ≤ rs[j]'(by omega)) → t ≤ rs[i] := fun i t hu hi nx hj => by
      refine lead_nxt (rs := rs.take i) hp nx (by rw [List.length_take, List.length_take]; omega) (fun j h => ?_) (r.lo _ (List.getElem_mem hi)) (fun x hx => ?_) (r.opn _ (List.getElem_mem hi)) (r.pol i hi)
      · rw [List.length_take] at h
        rw [List.getElem_take, List.getElem_take]
        exact hj j (by omega)
      · obtain ⟨j, h, rfl⟩ := List.getElem_of_mem hx
        rw [List.length_take] at h
        rw [List.getElem_take]
        exact r.srt j i (by omega) hi (by omega)
    have dom : ∀ (i : Nat) (h : i < us.length), us[i] ≤ rs[i]'(by omega) := fun i => by
      induction i using Nat.strongRecOn with
      | ind i ih =>
        intro h
        have nx := k1 i h
        rw [List.nil_append] at nx
        exact step i _ (by omega) (by omega) nx fun j hj => ih j hj (by omega)
    obtain ⟨t, nx⟩ := nxt_some (ps := ps) (hs := hs) (rs := us) (st := st) hp ho
    have a := step us.length t (Nat.le_refl _) (by omega) (by rw [List.take_of_length_le (Nat.le_refl _)]; exact nx) fun j hj => dom j hj
    have b := k4 t nx
    have c := r.hi _ (List.getElem_mem (l := rs) (n := us.length) (by omega))
    omega
end KP

set_option Elab.async false
set_option maxRecDepth 100000
set_option maxHeartbeats 4000000
set_option linter.all false
/-! Ours: mathematics: rules that are stricter than others. -/
namespace KP
open PySem PySem.Spec PyProof.Rows L2 Gr GxR
theorem asc_ge0 : ∀ {l : List Int} {m : Int}, asc m l → ∀ x ∈ l, m ≤ x
  | n :: l, m, h, x, hx => by
    rcases List.mem_cons.mp hx with e | e
    · rw [e]; exact h.1
    · exact Int.le_trans h.1 (asc_ge0 h.2 x e)
theorem asc_pw : ∀ {l : List Int} {m : Int}, l.Pairwise (· ≤ ·) → (∀ x ∈ l, m ≤ x) → asc m l
  | [], _, _, _ => trivial
  | n :: l, m, h, hm => ⟨hm n List.mem_cons_self, asc_pw (List.pairwise_cons.mp h).2 fun x hx => (List.pairwise_cons.mp h).1 x hx⟩
theorem asc_srt0 {l : List Int} (h : Srt l) (h0 : ∀ x ∈ l, 0 ≤ x) : asc 0 l := asc_pw (List.pairwise_iff_getElem.mpr fun i j hi hj hij => h i j hi hj (Nat.le_of_lt hij)) h0
theorem srt_takeN {ns : List Int} (h : Srt ns) (k : Nat) : Srt (ns.take k) := fun i j hi hj hij => by
  rw [List.length_take] at hi hj
  rw [List.getElem_take, List.getElem_take]
  exact h i j (by omega) (by omega) hij
theorem srt_dropN {ns : List Int} (h : Srt ns) (k : Nat) : Srt (ns.drop k) := fun i j hi hj hij => by
  rw [List.length_drop] at hi hj
  rw [List.getElem_drop, List.getElem_drop]
  exact h _ _ (by omega) (by omega) (by omega)
theorem RowP.dropN {ps : List (Int × Int)} {hs : List Int} {st e s2 : Int} {rs : List Int} (hp : ∀ p ∈ ps, 1 ≤ p.1) (r : RowP ps hs st e rs) (a : Nat) (h : ∀ x ∈ rs.drop a, s2 ≤ x) : RowP ps hs s2 e (rs.drop a) := by
  have sd := srt_dropN r.srt a
  refine ⟨sd, h, fun x hx => r.hi x (List.mem_of_mem_drop hx), fun x hx => r.opn x (List.mem_of_mem_drop hx), fun i hi => List.all_eq_true.mpr fun p hp' => ?_⟩
  rw [List.length_drop] at hi
  rw [List.getElem_drop]
  have b := List.all_eq_true.mp (r.pol (a + i) (by omega)) p hp'
  rw [ap_count (srt_takeN r.srt _) (hp p hp')] at b
  rw [ap_count (srt_takeN sd _) (hp p hp')]
  have b := of_decide_eq_true b
  rw [List.take_add, above_app] at b
  exact decide_eq_true (by omega)
theorem polite_rowP {ps : List (Int × Int)} {hs ns : List Int} (h : Polite ps hs ns) (hs' : Srt ns) {lo hi : Int} (h1 : ∀ x ∈ ns, lo ≤ x) (h2 : ∀ x ∈ ns, x < hi) : RowP ps hs lo hi ns := by
  have a : ∀ (i : Nat) (hi : i < ns.length), openI hs ns[i] = true ∧ ps.all (apI (ns.take i) ns[i]) = true := fun i hi => by
    have b := h i hi
    unfold politeAt at b
    rw [List.getD_eq_getElem?_getD, List.getElem?_eq_getElem hi, Bool.and_eq_true] at b
    exact b
  exact ⟨hs', h1, h2, fun x hx => by
    obtain ⟨i, hi, rfl⟩ := List.getElem_of_mem hx
    exact (a i hi).1, fun i hi => (a i hi).2⟩
theorem RowP.polite {ps : List (Int × Int)} {hs : List Int} {st e : Int} {rs : List Int} (r : RowP ps hs st e rs) : Polite ps hs rs := fun i hi => by
  unfold politeAt
  rw [List.getD_eq_getElem?_getD, List.getElem?_eq_getElem hi, Bool.and_eq_true]
  exact ⟨r.opn _ (List.getElem_mem hi), r.pol i hi⟩
theorem RowP.shift {ps : List (Int × Int)} {hs : List Int} {st e : Int} {rs : List Int} (r : RowP ps hs st e rs) (k : Int) : RowP ps hs (st + k * ((hs.length : Nat) : Int)) (e + k * ((hs.length : Nat) : Int)) (rs.map (· + k * ((hs.length : Nat) : Int))) := by
  refine ⟨fun i j hi hj hij => ?_, fun x hx => ?_, fun x hx => ?_, fun x hx => ?_, fun i hi => ?_⟩
  · rw [List.length_map] at hi hj
    rw [List.getElem_map, List.getElem_map]
    have := r.srt i j hi hj hij
    omega
  · obtain ⟨y, hy, rfl⟩ := List.mem_map.mp hx
    have := r.lo y hy
    show st + _ ≤ y + _
    omega
  · obtain ⟨y, hy, rfl⟩ := List.mem_map.mp hx
    have := r.hi y hy
    show y + _ < e + _
    omega
  · obtain ⟨y, hy, rfl⟩ := List.mem_map.mp hx
    show openI hs (y + _) = true
    rw [open_shift]
    exact r.opn y hy
  · rw [List.length_map] at hi
    rw [List.getElem_map, ← List.map_take]
    have h := r.pol i hi
    rw [← h]
    congr 1
    funext q
    exact ap_shift _ _ _ q
/-- a polite row comes no sooner than the next asks -/
theorem soon_le {ps : List (Int × Int)} {hs : List Int} {st e : Int} {ts rs : List Int} (hp : ∀ p ∈ ps, 1 ≤ p.1) (sr : SRow ps hs [] st ts) (r : RowP ps hs st e rs) : ∀ i : Nat, ∀ (h1 : i < ts.length) (h2 : i < rs.length), ts[i] ≤ rs[i] := fun i => by
  induction i using Nat.strongRecOn with
  | ind i ih =>
    intro h1 h2
    have n := sr i h1
    rw [List.nil_append] at n
    refine lead_nxt (rs := rs.take i) hp n (by rw [List.length_take, List.length_take]; omega) (fun j hj => ?_) (r.lo _ (List.getElem_mem h2)) (fun x hx => ?_) (r.opn _ (List.getElem_mem h2)) (r.pol i h2)
    · rw [List.length_take] at hj
      rw [List.getElem_take, List.getElem_take]
      exact ih j (by omega) (by omega) (by omega)
    · obtain ⟨j, hj, rfl⟩ := List.getElem_of_mem hx
      rw [List.length_take] at hj
      rw [List.getElem_take]
      exact r.srt j i (by omega) h2 (by omega)
theorem srow_any {ps : List (Int × Int)} {hs : List Int} (hp : ∀ p ∈ ps, 1 ≤ p.1) (ho : ∃ j : Nat, ∃ h : j < hs.length, hs[j] = 1) (st : Int) : ∀ n : Nat, ∃ ts, SRow ps hs [] st ts ∧ ts.length = n
  | 0 => ⟨[], SRow.nil, rfl⟩
  | n + 1 => by
    obtain ⟨ts, h, l⟩ := srow_any hp ho st n
    obtain ⟨t, nx⟩ := nxt_some (rs := [] ++ ts) (st := st) hp ho
    exact ⟨ts ++ [t], h.snoc nx, by rw [List.length_append, l]; rfl⟩
/-- each row that the first ones let is let by the others -/
def Stricter (ps : List (Int × Int)) (hs : List Int) (qs : List (Int × Int)) (os : List Int) : Prop := ∀ rs, asc 0 rs → Polite ps hs rs → Polite qs os rs
/-- from each moment on the asks behind one another are far enough for the others -/
def NoK (ps : List (Int × Int)) (hs : List Int) (qs : List (Int × Int)) : Prop := ∀ st : Nat, st < hs.length → ∀ q ∈ qs, ∀ (ts : List Int), SRow ps hs [] (st : Nat) ts → ∀ h : q.1.toNat < ts.length, (st : Int) + q.2 ≤ ts[q.1.toNat]
/-- a row that is let by the first ones, not by the others -/
def LooseR (ps : List (Int × Int)) (hs : List Int) (qs : List (Int × Int)) (os rs : List Int) : Prop := asc 0 rs ∧ Polite ps hs rs ∧ ¬ Polite qs os rs
theorem LooseR.no {ps : List (Int × Int)} {hs : List Int} {qs : List (Int × Int)} {os rs : List Int} (l : LooseR ps hs qs os rs) : ¬ Stricter ps hs qs os := fun s => l.2.2 (s rs l.1 l.2.1)
theorem ap_takeN {ns : List Int} {i : Nat} {q : Int × Int} (hi : i < ns.length) (h1 : 1 ≤ q.1) (t : Int) : apI (ns.take i) t q = true ↔ (q.1 ≤ i → ns.getD (i - q.1.toNat) 0 + q.2 ≤ t) := ap_take hi h1 t
theorem politeH_iff {ps : List (Int × Int)} (hp : P1 ps) {hs ns : List Int} : Polite ps hs ns ↔ (∀ x ∈ ns, openI hs x = true) ∧ ∀ q ∈ ps, ∀ i, i < ns.length → q.1 ≤ i → ns.getD (i - q.1.toNat) 0 + q.2 ≤ ns.getD i 0 := by
  unfold Polite politeAt
  have g : ∀ j (hj : j < ns.length), ns.getD j 0 = ns[j] := fun j hj => by rw [List.getD_eq_getElem?_getD, List.getElem?_eq_getElem hj]; rfl
  constructor
  · intro h
    refine ⟨fun x hx => ?_, fun q hq i hi => ?_⟩
    · obtain ⟨i, hi, rfl⟩ := List.getElem_of_mem hx
      have := h i hi
      rw [Bool.and_eq_true, g i hi] at this
      exact this.1
    · have := h i hi
      rw [Bool.and_eq_true] at this
      exact (ap_take hi (hp q hq) _).mp (List.all_eq_true.mp this.2 q hq)
  · rintro ⟨h1, h2⟩ i hi
    rw [Bool.and_eq_true]
    refine ⟨by rw [g i hi]; exact h1 _ (List.getElem_mem hi), List.all_eq_true.mpr fun q hq => (ap_take hi (hp q hq) _).mpr (h2 q hq i hi)⟩
/-- K + 1 asks too near: they alone are a row -/
theorem near_row {ps : List (Int × Int)} {hs rs : List Int} (hp : ∀ p ∈ ps, 1 ≤ p.1) (ha : asc 0 rs) (pl : Polite ps hs rs) {q : Int × Int} (h1 : 1 ≤ q.1) {i : Nat} (hi : i < rs.length) (hk : q.1 ≤ i) (near : rs.getD i 0 < rs.getD (i - q.1.toNat) 0 + q.2) :
    ∃ us, RowP ps hs (rs.getD (i - q.1.toNat) 0) (rs.getD (i - q.1.toNat) 0 + q.2) us ∧ us.length = q.1.toNat + 1 ∧ 0 ≤ rs.getD (i - q.1.toNat) 0 := by
  have g : ∀ j (hj : j < rs.length), rs.getD j 0 = rs[j] := fun j hj => by rw [List.getD_eq_getElem?_getD, List.getElem?_eq_getElem hj]; rfl
  have sr := asc_srt ha
  rw [g i hi, g (i - q.1.toNat) (by omega)] at near
  rw [g (i - q.1.toNat) (by omega)]
  have r1 : RowP ps hs (0 : Int) (rs[i - q.1.toNat]'(by omega) + q.2) (rs.take (i + 1)) := by
    have a := (polite_rowP pl sr (lo := 0) (hi := rs[rs.length - 1]'(by omega) + 1) (fun x hx => asc_ge0 ha x hx) (fun x hx => by
      obtain ⟨j, hj, rfl⟩ := List.getElem_of_mem hx
      have := sr j (rs.length - 1) hj (by omega) (by omega)
      omega)).take (i + 1)
    refine ⟨a.srt, a.lo, fun x hx => ?_, a.opn, a.pol⟩
    obtain ⟨j, hj, rfl⟩ := List.getElem_of_mem hx
    rw [List.length_take] at hj
    rw [List.getElem_take]
    have := sr j i (by omega) hi (by omega)
    omega
  refine ⟨(rs.take (i + 1)).drop (i - q.1.toNat), r1.dropN hp _ fun x hx => ?_, by rw [List.length_drop, List.length_take]; omega, asc_ge0 ha _ (List.getElem_mem _)⟩
  obtain ⟨j, hj, rfl⟩ := List.getElem_of_mem hx
  rw [List.length_drop, List.length_take] at hj
  rw [List.getElem_drop, List.getElem_take]
  exact sr _ _ (by omega) (by omega) (by omega)
theorem strict_of {ps : List (Int × Int)} {hs : List Int} {qs : List (Int × Int)} {os : List Int} (hp : P1 ps) (hq : P1 qs) (ho : ∃ j : Nat, ∃ h : j < hs.length, hs[j] = 1) (op : OpS hs os) (nk : NoK ps hs qs) : Stricter ps hs qs os := fun rs ha pl => by
  have P := (politeH_iff hp).mp pl
  refine (politeH_iff hq).mpr ⟨fun x hx => ?_, fun q hm i hi hk => ?_⟩
  · have x0 := asc_ge0 ha x hx
    obtain ⟨n, rfl⟩ : ∃ n : Nat, x = (n : Int) := ⟨x.toNat, by omega⟩
    exact op n (P.1 _ hx)
  · apply Classical.byContradiction
    intro z
    obtain ⟨us, ru, lu, s0⟩ := near_row hp ha pl (hq q hm) hi hk (by omega)
    generalize rs.getD (i - q.1.toNat) 0 = st0 at *
    obtain ⟨n0, rfl⟩ : ∃ n : Nat, st0 = (n : Int) := ⟨st0.toNat, by omega⟩
    have hl : 0 < hs.length := by obtain ⟨j, hj, _⟩ := ho; omega
    have sh := ru.shift (-((n0 / hs.length : Nat) : Int))
    have e1 : ((n0 : Nat) : Int) + -((n0 / hs.length : Nat) : Int) * ((hs.length : Nat) : Int) = ((n0 % hs.length : Nat) : Int) := by
      have h1 := Nat.div_add_mod n0 hs.length
      have h2 : ((n0 / hs.length : Nat) : Int) * ((hs.length : Nat) : Int) = ((hs.length * (n0 / hs.length) : Nat) : Int) := by rw [← Int.natCast_mul, Nat.mul_comm]
      have h3 : -((n0 / hs.length : Nat) : Int) * ((hs.length : Nat) : Int) = -(((n0 / hs.length : Nat) : Int) * ((hs.length : Nat) : Int)) := Int.neg_mul _ _
      rw [h3, h2]
      omega
    have e2 : ((n0 : Nat) : Int) + q.2 + -((n0 / hs.length : Nat) : Int) * ((hs.length : Nat) : Int) = ((n0 % hs.length : Nat) : Int) + q.2 := by omega
    rw [e1, e2] at sh
    obtain ⟨ts, sr, lt⟩ := srow_any hp ho ((n0 % hs.length : Nat) : Int) (q.1.toNat + 1)
    have h1 := nk (n0 % hs.length) (Nat.mod_lt _ hl) q hm ts sr (by omega)
    have h2 := soon_le hp sr sh q.1.toNat (by omega) (by rw [List.length_map]; omega)
    have h3 := sh.hi _ (List.getElem_mem (l := us.map (· + -((n0 / hs.length : Nat) : Int) * ((hs.length : Nat) : Int))) (n := q.1.toNat) (by rw [List.length_map]; omega))
    omega
/-- the next asks from st on, K + 1 of them, come too near -/
theorem loose_soon {ps : List (Int × Int)} {hs : List Int} {qs : List (Int × Int)} {os : List Int} (hq : P1 qs) {st : Nat} {q : Int × Int} (hm : q ∈ qs) {ts : List Int} (sr : SRow ps hs [] (st : Nat) ts) (l : ts.length = q.1.toNat + 1) (h : ts[q.1.toNat]'(by omega) < (st : Int) + q.2) : LooseR ps hs qs os ts := by
  have so := row_srt0 sr
  have fr := row_from sr
  have r : RowP ps hs st ((st : Int) + q.2) ts := RowP.of sr fun x hx => by
    obtain ⟨j, hj, rfl⟩ := List.getElem_of_mem hx
    have := so j q.1.toNat hj (by omega) (by omega)
    omega
  have q1 := hq q hm
  refine ⟨asc_srt0 so fun x hx => Int.le_trans (Int.natCast_nonneg st) (fr x hx), r.polite, fun z => ?_⟩
  have a := ((politeH_iff hq).mp z).2 q hm q.1.toNat (by omega) (by omega)
  have g : ∀ j (hj : j < ts.length), ts.getD j 0 = ts[j] := fun j hj => by rw [List.getD_eq_getElem?_getD, List.getElem?_eq_getElem hj]; rfl
  rw [Nat.sub_self, g 0 (by omega), g _ (by omega)] at a
  have := fr _ (List.getElem_mem (l := ts) (n := 0) (by omega))
  omega
theorem loose_shut {ps : List (Int × Int)} {hs : List Int} {qs : List (Int × Int)} {os : List Int} (hp : P1 ps) (hq : P1 qs) {t : Nat} (h1 : openI hs t = true) (h2 : openI os t = false) : LooseR ps hs qs os [((t : Nat) : Int)] := by
  refine ⟨⟨Int.natCast_nonneg t, trivial⟩, (politeH_iff hp).mpr ⟨fun x hx => by rw [List.mem_singleton.mp hx]; exact h1, fun q hq i hi hk => ?_⟩, fun z => ?_⟩
  · have := hp q hq
    have hi : i < 1 := hi
    omega
  · have := ((politeH_iff hq).mp z).1 _ List.mem_cons_self
    rw [h2] at this
    cases this
theorem openI_dvd {hs : List Int} {L : Nat} (h : hs.length ∣ L) (t : Nat) : openI hs ((t : Nat) : Int) = openI hs ((t % L : Nat) : Int) := by
  rw [openI_nat, openI_nat, Nat.mod_mod_of_dvd t h]
theorem ops_of {hs os : List Int} {L : Nat} (h0 : 0 < L) (h1 : hs.length ∣ L) (h2 : os.length ∣ L) (h : ∀ t : Nat, t < L → openI hs t = true → openI os t = true) : OpS hs os := fun t ht => by
  rw [openI_dvd h2]
  rw [openI_dvd h1] at ht
  exact h _ (Nat.mod_lt _ h0) ht
end KP

set_option Elab.async false
set_option maxRecDepth 100000
set_option maxHeartbeats 4000000
set_option linter.all false
/-! Ours: loose_row, is_stricter, are_alike_rules, of any right rules. -/
namespace KP
open PySem PySem.Spec PyProof.Rows L2 Gr GxR
theorem most_few {ps : List (Int × Int)} {hs : List Int} {st e : Int} {v : V} {K : Nat} (hp : P1 ps) (m : MostV ps hs st e v) (h : ∃ n : Int, v = .int n ∧ n ≤ (K : Int)) {ts : List Int} (sr : SRow ps hs [] st ts) (hk : K < ts.length) : e ≤ ts[K] := by
  obtain ⟨n, rfl, hn⟩ := h
  rcases m with ⟨rfl, m⟩ | ⟨_, n', en, m⟩
  · rcases m with ⟨m, _⟩ | ⟨_, m⟩
    · cases m
    · apply Classical.byContradiction
      intro z
      have := m ts[K] (row_from sr _ (List.getElem_mem _)) (by omega)
      rw [(sr K hk).opn] at this
      cases this
  · cases en
    obtain ⟨us, su, lu, h1, h2⟩ := m
    have pre := srow_prefix su sr (by omega)
    have nx := sr n' (by omega)
    rw [List.nil_append] at nx
    have : ts.take n' = us := by rw [← lu]; exact pre
    rw [this] at nx
    have h3 := h2 _ nx
    have h4 := row_srt0 sr n' K (by omega) hk (by omega)
    omega
theorem most_near {ps : List (Int × Int)} {hs : List Int} {st e : Int} {v : V} {K : Nat} (hp : P1 ps) (m : MostV ps hs st e v) (h : v = .non ∨ ∃ n : Int, v = .int n ∧ (K : Int) < n) {ts : List Int} (sr : SRow ps hs [] st ts) (hk : K < ts.length) : ts[K] < e := by
  rcases m with ⟨rfl, m⟩ | ⟨_, n', rfl, m⟩
  · rcases m with ⟨_, u, hu1, hu2, hu3⟩ | ⟨rfl, _⟩
    · have all : ∀ i (hi : i < ts.length), ts[i] ≤ u := fun i => by
        induction i with
        | zero => exact fun hi => (sr 0 hi).least u ⟨hu1, fun x hx => by cases hx⟩ hu3 rfl
        | succ i ih =>
          intro hi
          refine (sr (i + 1) hi).least u ⟨hu1, fun x hx => ?_⟩ hu3 rfl
          rw [List.nil_append] at hx
          obtain ⟨h0, rfl⟩ := last_some hx
          rw [List.length_take] at h0
          simp only [List.length_take, List.getElem_take]
          have := ih (by omega)
          have e1 : min (i + 1) ts.length - 1 = i := by omega
          simp only [e1]
          exact this
      have := all K hk
      omega
    · rcases h with h | ⟨n, h, hn⟩
      · cases h
      · cases h
        omega
  · rcases h with h | ⟨n, h, hn⟩
    · cases h
    · cases h
      obtain ⟨us, su, lu, h1, h2⟩ := m
      have o := SRow.one sr su (K + 1) (by omega) (by omega)
      have : (ts.take (K + 1))[K]? = (us.take (K + 1))[K]? := by rw [o]
      rw [List.getElem?_take_of_lt (by omega), List.getElem?_take_of_lt (by omega), List.getElem?_eq_getElem hk, List.getElem?_eq_getElem (by omega)] at this
      rw [Option.some.inj this]
      exact h1 _ (List.getElem_mem _)
def spRWCg : Sp := fun vs H Q _ => ∃ (hv ov : V) (hs os : List Int), vs = [hv, ov] ∧ Od H hv (hrsP hs) ∧ Od H ov (hrsP os) ∧ Hrs hs ∧ Hrs os ∧ (OpS hs os → Q .non H) ∧ (∀ t : Nat, openI hs t = true → openI os t = false → ∀ c H', Same H H' → H' c = some (.tup [.int (t : Int)]) → Q (.ref c) H')
def spRTMg : Sp := fun vs H Q _ => ∃ (rv lv : V) (ps qs : List (Int × Int)) (hs : List Int), vs = [rv, lv] ∧ Od H rv (rulesP ps hs) ∧ Od H lv (limsP qs) ∧ Lm ps ∧ Hrs hs ∧ Lm qs ∧ (NoK ps hs qs → ∀ H', Same H H' → Q .non H') ∧
  (∀ (st : Nat) (q : Int × Int) (ts : List Int), q ∈ qs → SRow ps hs [] (st : Nat) ts → (l : ts.length = q.1.toNat + 1) → ts[q.1.toNat]'(by omega) < (st : Int) + q.2 → ∀ c H', Same H H' → H' c = some (.tup (ts.map V.int)) → Q (.ref c) H')
/-- what loose_row answers -/
def spLooseG (L : List Addr) : Sp := fun vs H Q _ => ∃ (rv ov : V) (ps qs : List (Int × Int)) (hs os : List Int), vs = [rv, ov] ∧ Od H rv (rulesP ps hs) ∧ Od H ov (rulesP qs os) ∧ Lm ps ∧ Hrs hs ∧ Lm qs ∧ Hrs os ∧ Tb L H ∧
  (Stricter ps hs qs os → ∀ H', UpL L H H' → Q .non H') ∧ (∀ rs c H', LooseR ps hs qs os rs → rs.length ≤ 7 → UpL L H H' → H' c = some (.tup (rs.map V.int)) → Q (.ref c) H')
open Classical in
def spStrictG (L : List Addr) : Sp := fun vs H Q _ => ∃ (rv ov : V) (ps qs : List (Int × Int)) (hs os : List Int), vs = [rv, ov] ∧ Od H rv (rulesP ps hs) ∧ Od H ov (rulesP qs os) ∧ Lm ps ∧ Hrs hs ∧ Lm qs ∧ Hrs os ∧ Tb L H ∧ ∀ H', UpL L H H' → Q (.bl (decide (Stricter ps hs qs os))) H'
open Classical in
def spAlikeRG (L : List Addr) : Sp := fun vs H Q _ => ∃ (rv ov : V) (ps qs : List (Int × Int)) (hs os : List Int), vs = [rv, ov] ∧ Od H rv (rulesP ps hs) ∧ Od H ov (rulesP qs os) ∧ Lm ps ∧ Hrs hs ∧ Lm qs ∧ Hrs os ∧ Tb L H ∧ ∀ H', UpL L H H' → Q (.bl (decide (Stricter ps hs qs os) && decide (Stricter qs os ps hs))) H'
section
variable {P : Program} {w : World} {K : PySem.W.Frag} {mg : Str → Option Value} {base : Heap} {C : Addr}
theorem ok_rwcG (T : D K mg) : FnOk P w K mg base CX0 2 T.f_row_while_closed T.d_row_while_closed ["hours", "other"] spRWCg := by
  refine T.U_row_while_closed.ok sc_rwc (fun vs H Q E h => ?_) (fun cdv A outer s H vs Q E hr h => ?_)
  · obtain ⟨hv, ov, hs, os, rfl, _⟩ := h
    rfl
  · obtain ⟨hv, ov, hs, os, rfl, hH, hO, g1, g2, k1, k2⟩ := h
    have nd := sc_rwc.nd
    have mz : 5000 ≤ sizeLine := by decide
    refine ⟨_, pss_cons (ps_for PassesOwn.never rfl (pi_range1 rfl T.range (pa_cons (pe_callBfun cr_lcm (by rfl) T.i_lcm (pa_cons (pe_callB call_len_seq (by rfl) T.len PySem.boot_len (pa_cons (pv 0) pa_nil)) (pa_cons (pe_callB call_len_seq (by rfl) T.len PySem.boot_len (pa_cons (pv 1) pa_nil)) pa_nil))) pa_nil)) (pg_name (i := 2) nd rfl (.inl rfl))
        (pss_one (ps_if (PW.pt (pw_and (pt_val (pe_call (ok_opens T) hr rfl T.g_opens T.U_opens.kp T.b_opens .nil pass0 (pa_cons (pv 0) (pa_cons (pv 2) pa_nil)))) (pw_and1 (pt_not (pt_val (pe_call (ok_opens T) hr rfl T.g_opens T.U_opens.kp T.b_opens .nil pass0 (pa_cons (pv 1) (pa_cons (pv 2) pa_nil))))))))
          (pss_one (ps_ret (pe_tup (pa_cons (pv 2) pa_nil))))
          (pss_nil))))
      (pss_one (ps_ret pe_non)), ?_⟩
    obtain ⟨ha, rfl, eh⟩ := od_I hH
    obtain ⟨oa, rfl, eo⟩ := od_I hO
    have h12 := g1.h1
    have o12 := g2.h1
    have h0 := g1.h0
    have o0 := g2.h0
    refine ⟨_, rfl, ha, _, rfl, .inr (SqT.of eh), _, rfl, oa, _, rfl, .inr (SqT.of eo), _, _, rfl, by rw [List.length_map]; omega, by rw [List.length_map]; omega, ?_⟩
    have ll := lcm_le (hs.map V.int).length (os.map V.int).length (by rw [List.length_map]; omega) (by rw [List.length_map]; omega)
    have lp : 0 < Nat.lcm hs.length os.length := Nat.lcm_pos h0 o0
    rw [List.length_map, List.length_map] at ll ⊢
    refine ⟨_, rfl, by omega, by omega, for_range (n := Nat.lcm hs.length os.length) (fun i σ Hx => Hx = H ∧ (∀ t : Nat, t < i → openI hs t = true → openI os t = true) ∧ ∃ v2 : Option V, σ = [some (.ref ha), some (.ref oa), v2]) ⟨rfl, fun t h => absurd h (Nat.not_lt_zero t), _, rfl⟩ ?_ ?_⟩
    · rintro i σ Hx hi ⟨rfl, hb, v2, rfl⟩
      refine gn ?_
      dsimp only [List.set]
      have ei : (0 : Int) + (i : Int) = ((i : Nat) : Int) := by omega
      rw [ei]
      have more : (openI hs i = true → openI os i = true) → ∀ t : Nat, t < i + 1 → openI hs t = true → openI os t = true := fun h t ht => by
        by_cases z : t = i
        · rw [z]; exact h
        · exact hb t (by omega)
      refine ⟨_, rfl, _, rfl, _, hs, _, rfl, hH, h0, _, rfl, ite2 (fun h => ?_) (fun h => iteF (next_of ⟨rfl, more fun q => absurd q h, _, rfl⟩))⟩
      refine ⟨_, rfl, _, rfl, _, os, _, rfl, hO, o0, _, rfl, ?_⟩
      cases ho : openI os ((i : Nat) : Int) with
      | true => exact iteF (next_of ⟨rfl, more fun _ => ho, _, rfl⟩)
      | false => exact iteT ⟨_, rfl, by show 1 ≤ sizeLine; omega, fun c hc => k2 i h ho c _ (same_upd hc) upd_same⟩
    · rintro σ Hx ⟨rfl, hb, v2, rfl⟩
      exact k1 (ops_of lp (Nat.dvd_lcm_left _ _) (Nat.dvd_lcm_right _ _) hb)
theorem ok_rtmG (T : D K mg) : FnOk P w K mg base CX0 5 T.f_row_of_too_many T.d_row_of_too_many ["rules", "limits"] spRTMg := by
  refine T.U_row_of_too_many.ok sc_rtm (fun vs H Q E h => ?_) (fun cdv A outer s H vs Q E hr h => ?_)
  · obtain ⟨rv, lv, ps, qs, hs, rfl, _⟩ := h
    rfl
  · obtain ⟨rv, lv, ps, qs, hs, rfl, hR, hL, lp, gh, lq, k1, k2⟩ := h
    have nd := sc_rtm.nd
    have mz : 5000 ≤ sizeLine := by decide
    have hp : P1 ps := fun q hq => (lp.2 q hq).1
    refine ⟨_, pss_cons (ps_for PassesOwn.never rfl (pi_range1 rfl T.range (pa_cons (pe_callB call_len_seq (by rfl) T.len PySem.boot_len (pa_cons (pe_ix ix_tup (pv 0) pe_int (fun _ _ => rfl)) pa_nil)) pa_nil)) (pg_name (i := 2) nd rfl (.inl rfl))
        (pss_one (ps_for PassesOwn.never rfl (pi_tup (pv 1)) (pg_tup rfl (pgs_cons (pg_name (i := 3) nd rfl (.inl rfl)) (pgs_cons (pg_name (i := 4) nd rfl (.inl rfl)) pgs_nil)))
          (pss_cons (ps_set (i := 5) nd rfl (.inl rfl) (pe_call (ok_mostb T) hr rfl T.g_most_between T.U_most_between.kp T.b_most_between .nil pass0 (pa_cons (pv 0) (pa_cons (pv 2) (pa_cons (pe_op op_add (pv 2) (pv 4)) pa_nil)))))
          (pss_one (ps_if (PW.pt (pw_or (pt_cmpR op_isN (pv 5) pe_non (nomark _)) (pw_or1 (pt_cmpR op_gt (pv 5) (pv 3) (nomark _)))))
            (pss_one (ps_ret (pe_callTy call_tuple_of (by rfl) T.tuple (by decide +kernel) (pa_cons (pe_call (ok_soonK T) hr rfl T.g_soonest_asks T.U_soonest_asks.kp T.b_soonest_asks .nil pass0 (pa_cons (pv 0) (pa_cons (pe_tup pa_nil) (pa_cons (pe_op op_add (pv 3) pe_int) (pa_cons (pv 2) pa_nil))))) pa_nil))))
            (pss_nil)))))))
      (pss_one (ps_ret pe_non)), ?_⟩
    obtain ⟨ra, av, hv, rfl, er, oa, oh⟩ := od_rules hR
    obtain ⟨ha, rfl, eh⟩ := od_I oh
    obtain ⟨la, ls, rfl, el, ol⟩ := od_tup hL
    have lls : ls.length = qs.length := by rw [ol.len, List.length_map, List.length_map]
    have h12 := gh.h1
    have lpl := lp.1
    have hr0 : RulV K H (.ref ra) ps hs := rulV_of hR
    refine ⟨_, rfl, ra, _, 1, _, rfl, rfl, SqT.of er, rfl, ha, _, rfl, .inr (SqT.of eh), ?_⟩
    rw [List.length_map]
    refine ⟨_, rfl, by omega, by omega, for_range (n := hs.length) (fun i σ Hx => Same H Hx ∧ (∀ st : Nat, st < i → ∀ q ∈ qs, ∀ (ts : List Int), SRow ps hs [] (st : Nat) ts → ∀ h : q.1.toNat < ts.length, (st : Int) + q.2 ≤ ts[q.1.toNat]) ∧ ∃ v2 v3 v4 v5 : Option V, σ = [some (.ref ra), some (.ref la), v2, v3, v4, v5]) ⟨.refl _, (fun st h => absurd h (Nat.not_lt_zero st)), _, _, _, _, rfl⟩ ?_ ?_⟩
    · rintro i σ Hx hi ⟨sx, hb, v2, v3, v4, v5, rfl⟩
      refine gn ?_
      dsimp only [List.set]
      have ei : (0 : Int) + (i : Int) = ((i : Nat) : Int) := by omega
      rw [ei]
      refine ⟨_, rfl, la, rfl, ⟨_, SqT.of (sx _ _ el)⟩, for_tup (K := K) (a := la) (xs := ls) (fun m σ Hy => Same H Hy ∧ (∀ j (hj : j < qs.length), j < m → ∀ (ts : List Int), SRow ps hs [] ((i : Nat) : Int) ts → ∀ h : qs[j].1.toNat < ts.length, (i : Int) + qs[j].2 ≤ ts[qs[j].1.toNat]) ∧ ∃ v3 v4 v5 : Option V, σ = [some (.ref ra), some (.ref la), some (.int ((i : Nat) : Int)), v3, v4, v5]) ⟨sx, (fun j _ h => absurd h (Nat.not_lt_zero j)), _, _, _, rfl⟩ (fun m σ Hy _ z => SqT.of (z.1 _ _ el)) ?_ ?_⟩
      · rintro m x σ Hy hx ⟨sy, hc, v3, v4, v5, rfl⟩
        obtain ⟨q, b, hq, rfl, eb⟩ := pair_at ol hx
        obtain ⟨hml, hme⟩ := List.getElem?_eq_some_iff.mp hq
        have hqm := List.mem_of_getElem? hq
        have lqq := lq.2 q hqm
        have kq : ((q.1.toNat : Nat) : Int) = q.1 := by omega
        refine ⟨b, _, rfl, SqT.of (sy _ _ eb), rfl, _, _, rfl, _, _, rfl, rfl, ?_⟩
        dsimp only [List.set]
        refine ⟨_, rfl, _, rfl, _, rfl, _, rfl, _, _, rfl, rfl, _, _, _, ps, hs, rfl, rulV_same sy hr0, lp.1, lp.c, gh.one, by omega, fun v H2 mv s2 => gn ?_⟩
        dsimp only [List.set]
        have far : (∃ n : Int, v = .int n ∧ n ≤ q.1) → ∀ j (hj : j < qs.length), j < m + 1 → ∀ (ts : List Int), SRow ps hs [] ((i : Nat) : Int) ts → ∀ h : qs[j].1.toNat < ts.length, (i : Int) + qs[j].2 ≤ ts[qs[j].1.toNat] := fun hv j hj hjm => by
          by_cases z : j = m
          · subst z
            intro ts sr hl
            have e := hme
            generalize qs[j] = q' at *
            subst e
            exact most_few hp mv (by obtain ⟨n, e1, e2⟩ := hv; exact ⟨n, e1, by omega⟩) sr hl
          · exact hc j hj (by omega)
        have near : (v = .non ∨ ∃ n : Int, v = .int n ∧ q.1 < n) → ∀ {D2 : Ends} , D2.rt = Q → tRet (tCB (fun xs H_1 Q => ∃ p ys, xs = [V.ref p] ∧ ((SqL K H_1 p ys ∧ ∀ (l : Addr), H_1 l = none → Q (V.ref l) (upd H_1 l (HO.tup ys))) ∨ SqT K H_1 p ys ∧ Q (V.ref p) H_1)) (tCons (tCall (spSoonK K) [] E0 (tCons (tVar 0) (tCons (tTup tNil) (tCons (tOp (rI0 fun i j => V.int (i + j)) (tVar 3) (tC (V.int 1))) (tCons (tVar 2) tNil))))) tNil)) D2 [some (.ref ra), some (.ref la), some (.int ((i : Nat) : Int)), some (.int q.1), some (.int q.2), some v] H2 := fun hv D2 hD2 => by
          refine ⟨_, rfl, by show 0 ≤ sizeLine; omega, fun z hz => ?_⟩
          have sz := same_upd (o := HO.tup []) hz
          have s2z := sy.trans (s2.trans sz)
          refine ⟨_, rfl, _, _, rfl, rfl, _, rfl, _, z, q.1 + 1, ((i : Nat) : Int), ps, hs, [], rfl, rulV_same s2z hr0, by omega, hp, gh.one, .inr (SqT.of upd_same), Nat.zero_le _, by omega, by omega, fun L ts H4 s4 eL lts sr => ?_⟩
          have l1 : ts.length = q.1.toNat + 1 := by rw [lts]; omega
          refine ⟨L, _, rfl, .inl ⟨SqL.of eL, fun R hR => ?_⟩⟩
          rw [hD2]
          exact k2 i q ts hqm sr l1 (most_near hp mv (by rw [kq]; exact hv) sr (by omega)) R _ ((s2z.trans s4).trans (same_upd hR)) upd_same
        refine ⟨_, rfl, rfl, _, rfl, ite2 (fun h => iteT (near (.inl (of_decide_eq_true h)) rfl)) (fun h => ?_)⟩
        have nv : v ≠ .non := fun e => h (decide_eq_true e)
        obtain ⟨n, rfl⟩ : ∃ n : Int, v = .int n := by
          rcases mv with ⟨_, m⟩ | ⟨_, n, e, _⟩
          · rcases m with ⟨e, _⟩ | ⟨e, _⟩
            · exact absurd e nv
            · exact ⟨_, e⟩
          · exact ⟨_, e⟩
        refine ⟨_, rfl, _, rfl, _, _, rfl, rfl, _, rfl, ite2 (fun h => near (.inr ⟨n, rfl, of_decide_eq_true h⟩) rfl) (fun h => next_of ⟨sy.trans s2, far ⟨n, rfl, ?_⟩, _, _, _, rfl⟩)⟩
        have : ¬ q.1 < n := fun z => h (decide_eq_true z)
        omega
      · rintro σ Hy ⟨sy, hc, v3, v4, v5, rfl⟩
        refine ⟨sy, fun st hst q hq => ?_, _, _, _, _, rfl⟩
        by_cases z : st = i
        · subst z
          obtain ⟨j, hj, rfl⟩ := List.getElem_of_mem hq
          exact hc j hj (by omega)
        · exact hb st (by omega) q hq
    · rintro σ Hx ⟨sx, hb, v2, v3, v4, v5, rfl⟩
      exact k1 hb _ sx
theorem ok_looseG (T : D K mg) (TB : Tabs base T) : FnOk P w K mg base CX0 8 T.f_loose_row T.d_loose_row ["rules", "other"] (spLooseG (tabs T)) := by
  refine T.U_loose_row.ok sc_loose (fun vs H Q E h => ?_) (fun cdv A outer s H vs Q E hr h => ?_)
  · obtain ⟨rv, ov, ps, qs, hs, os, rfl, _⟩ := h
    rfl
  · obtain ⟨rv, ov, ps, qs, hs, os, rfl, hR, hO, lp, gh, lq, go, hT, k1, k2⟩ := h
    have nd := sc_loose.nd
    have hp : P1 ps := fun q hq => (lp.2 q hq).1
    have hq : P1 qs := fun q hq => (lq.2 q hq).1
    refine ⟨_, pss_cons (ps_expr (pe_call (ok_ckr T TB) hr rfl T.g_check_rules T.U_check_rules.kp T.b_check_rules .nil pass0 (pa_cons (pv 0) pa_nil)))
      (pss_cons (ps_expr (pe_call (ok_ckr T TB) hr rfl T.g_check_rules T.U_check_rules.kp T.b_check_rules .nil pass0 (pa_cons (pv 1) pa_nil)))
      (pss_cons (ps_set (i := 2) nd rfl (.inl rfl) (pe_call (ok_rwcG T) (hr.mono (by decide)) rfl T.g_row_while_closed T.U_row_while_closed.kp T.b_row_while_closed .nil pass0 (pa_cons (pe_ix ix_tup (pv 0) pe_int (fun _ _ => rfl)) (pa_cons (pe_ix ix_tup (pv 1) pe_int (fun _ _ => rfl)) pa_nil))))
      (pss_cons (ps_if (pt_cmpR op_isN (pv 2) pe_non (nomark _))
        (pss_one (ps_set (i := 2) nd rfl (.inl rfl) (pe_call (ok_rtmG T) (hr.mono (by decide)) rfl T.g_row_of_too_many T.U_row_of_too_many.kp T.b_row_of_too_many .nil pass0 (pa_cons (pv 0) (pa_cons (pe_ix ix_tup (pv 1) pe_int (fun _ _ => rfl)) pa_nil)))))
        (pss_nil))
      (pss_one (ps_ret (pv 2)))))), ?_⟩
    refine ⟨_, rfl, rv, _, rfl, hR, (gh.goodP lp).rules, hT, fun H1 u1 => ?_⟩
    have hR1 := hR.stay (u1.stay hT)
    have hO1 := hO.stay (u1.stay hT)
    refine ⟨_, rfl, ov, _, rfl, hO1, (go.goodP lq).rules, u1.1, fun H2 u2 => ?_⟩
    have hR2 := hR1.stay (u2.stay u1.1)
    have hO2 := hO1.stay (u2.stay u1.1)
    have u02 := u1.trans u2
    obtain ⟨ra, rl, rh, rfl, er, orl, orh⟩ := od_rules hR2
    obtain ⟨oa, ol, oh, rfl, eo, ool, ooh⟩ := od_rules hO2
    refine ⟨_, rfl, ra, _, 1, rh, rfl, rfl, SqT.of er, rfl, _, rfl, oa, _, 1, oh, rfl, rfl, SqT.of eo, rfl, _, _, hs, os, rfl, orh, ooh, gh, go, fun op => gn ?_, fun t h1 h2 c H3 s3 ec => gn ?_⟩
    · dsimp only [List.set]
      refine ⟨_, rfl, rfl, _, rfl, iteT ?_⟩
      refine ⟨_, rfl, _, rfl, oa, _, 0, ol, rfl, rfl, SqT.of eo, rfl, _, _, ps, qs, hs, rfl, hR2, ool, lp, gh, lq, fun nk H3 s3 => gn ?_, fun st q ts hm sr l nr c H3 s3 ec => gn ?_⟩
      · exact ⟨_, rfl, k1 (strict_of hp hq gh.one op nk) H3 (u02.trans (.same u02.1 s3))⟩
      · have := lq.2 q hm
        exact ⟨_, rfl, k2 ts c H3 (loose_soon hq hm sr l nr) (by omega) (u02.trans (.same u02.1 s3)) ec⟩
    · dsimp only [List.set]
      refine ⟨_, rfl, rfl, _, rfl, iteF (next_of ?_)⟩
      exact ⟨_, rfl, k2 [((t : Nat) : Int)] c H3 (loose_shut hp hq h1 h2) (by show 1 ≤ 7; decide) (u02.trans (.same u02.1 s3)) ec⟩
open Classical in
theorem ok_strictG (T : D K mg) (TB : Tabs base T) : FnOk P w K mg base CX0 9 T.f_is_stricter T.d_is_stricter ["rules", "other"] (spStrictG (tabs T)) := by
  refine T.U_is_stricter.ok sc_stricter (fun vs H Q E h => ?_) (fun cdv A outer s H vs Q E hr h => ?_)
  · obtain ⟨rv, ov, ps, qs, hs, os, rfl, _⟩ := h
    rfl
  · obtain ⟨rv, ov, ps, qs, hs, os, rfl, hR, hO, lp, gh, lq, go, hT, k⟩ := h
    refine ⟨_, pss_one (ps_ret (pe_cmpR op_isN (pe_call (ok_looseG T TB) hr rfl T.g_loose_row T.U_loose_row.kp T.b_loose_row .nil pass0 (pa_cons (pv 0) (pa_cons (pv 1) pa_nil))) pe_non (nomark _))), ?_⟩
    refine ⟨_, rfl, _, rfl, rv, ov, ps, qs, hs, os, rfl, hR, hO, lp, gh, lq, go, hT, fun st H' u => ⟨rfl, ?_⟩, fun rs c H' l _ u ec => ⟨rfl, ?_⟩⟩
    · have := k H' u
      rw [decide_eq_true st] at this
      exact this
    · have := k H' u
      rw [decide_eq_false l.no] at this
      exact this
open Classical in
theorem ok_alikeRG (T : D K mg) (TB : Tabs base T) : FnOk P w K mg base CX0 10 T.f_are_alike_rules T.d_are_alike_rules ["rules", "other"] (spAlikeRG (tabs T)) := by
  refine T.U_are_alike_rules.ok sc_aliker (fun vs H Q E h => ?_) (fun cdv A outer s H vs Q E hr h => ?_)
  · obtain ⟨rv, ov, ps, qs, hs, os, rfl, _⟩ := h
    rfl
  · obtain ⟨rv, ov, ps, qs, hs, os, rfl, hR, hO, lp, gh, lq, go, hT, k⟩ := h
    refine ⟨_, pss_one (ps_ret (pe_and (pe_call (ok_strictG T TB) hr rfl T.g_is_stricter T.U_is_stricter.kp T.b_is_stricter .nil pass0 (pa_cons (pv 0) (pa_cons (pv 1) pa_nil))) (pe_one (pe_call (ok_strictG T TB) hr rfl T.g_is_stricter T.U_is_stricter.kp T.b_is_stricter .nil pass0 (pa_cons (pv 1) (pa_cons (pv 0) pa_nil)))))), ?_⟩
    refine ⟨_, rfl, _, rfl, rv, ov, ps, qs, hs, os, rfl, hR, hO, lp, gh, lq, go, hT, fun H1 u1 => ⟨_, rfl, ?_⟩⟩
    cases e : decide (Stricter ps hs qs os) with
    | false =>
      refine iteF ?_
      have := k H1 u1
      rw [e, Bool.false_and] at this
      exact this
    | true =>
      refine iteT ?_
      refine ⟨_, rfl, _, rfl, ov, rv, qs, ps, os, hs, rfl, hO.stay (u1.stay hT), hR.stay (u1.stay hT), lq, go, lp, gh, u1.1, fun H2 u2 => ?_⟩
      have := k H2 (u1.trans u2)
      rw [e, Bool.true_and] at this
      exact this
end
end KP

set_option Elab.async false
set_option maxRecDepth 100000
set_option maxHeartbeats 4000000
set_option linter.all false
/-! Ours: dicts whose keys are pairs (int, tuple of ints). -/
namespace Gr
open PySem PySem.Spec PyProof.Rows L2 GxR
abbrev WK := Int × List Int
def wK (k : WK) : NestedKey := .tup [.num k.1, .tup (k.2.map NestedKey.num)]
/-- at a stands the pair k -/
def KeyAt (H : Hp) (a : Addr) (k : WK) : Prop := ∃ b, H a = some (.tup [.int k.1, .ref b]) ∧ H b = some (.tup (k.2.map V.int))
theorem nums_inj : ∀ {l m : List Int}, l.map NestedKey.num = m.map NestedKey.num → l = m
  | [], [], _ => rfl
  | [], _ :: _, e => by cases e
  | _ :: _, [], e => by cases e
  | x :: l, y :: m, e => by
    rw [List.map_cons, List.map_cons] at e
    injection e with e1 e2
    injection e1 with e1
    rw [e1, nums_inj e2]
theorem wK_inj {k m : WK} (e : wK k = wK m) : k = m := by
  obtain ⟨i, l⟩ := k
  obtain ⟨j, n⟩ := m
  unfold wK at e
  injection e with e
  injection e with e1 e2
  injection e1 with e1
  injection e2 with e2 _
  injection e2 with e2
  exact Prod.ext e1 (nums_inj e2)
theorem depth_nums (l : List Int) : NestedKey.depthAll (l.map NestedKey.num) = 0 := by
  induction l with
  | nil => rfl
  | cons x l ih => rw [List.map_cons, NestedKey.depthAll, NestedKey.depth, ih]; rfl
theorem wK_depth (k : WK) : (wK k).depth ≤ 8 := by
  unfold wK
  rw [NestedKey.depth, NestedKey.depthAll, NestedKey.depthAll, NestedKey.depth, NestedKey.depth, NestedKey.depthAll, depth_nums]
  decide
theorem nums_at {h : Heap} : ∀ {l : List Int} {us : List Value}, Vals (l.map V.int) us → NestedAll h (l.map NestedKey.num) us
  | [], _, .nil => .nil
  | i :: l, _, .cons r t => by
    obtain ⟨t', rfl⟩ := (show ∃ t, _ = Value.int i t from r)
    exact .cons (.int _ _) (nums_at t)
theorem key_at {P : Program} {w : World} {H : Hp} {h : Heap} {a : Addr} {k : WK} (ok : HOk P w H h) (e : KeyAt H a k) : (nestedKind P w).is h (wK k) a := by
  obtain ⟨b, e1, e2⟩ := e
  obtain ⟨_, its, r, o, h1, h2, n, h3⟩ := (show ObjOk P w H h a (.tup _) from ok a _ e1)
  obtain ⟨_, its2, r2, o2, g1, g2, n2, g3⟩ := (show ObjOk P w H h b (.tup _) from ok b _ e2)
  obtain ⟨i, l⟩ := k
  refine ⟨?_, wK_depth _⟩
  cases r with
  | cons q1 t =>
    cases t with
    | cons q2 t2 =>
      cases t2
      obtain ⟨t', rfl⟩ := (show ∃ t, _ = Value.int i t from q1)
      cases (show _ = Value.ref b from q2)
      exact .tup h1 h2 h3 (.cons (.int _ _) (.cons (.tup g1 g2 g3 (nums_at r2)) .nil))
theorem KeyAt.keep {H H' : Hp} {a : Addr} {k : WK} (e : KeyAt H a k) (ht : ∀ c ys, H c = some (.tup ys) → H' c = some (.tup ys)) : KeyAt H' a k := let ⟨b, e1, e2⟩ := e; ⟨b, ht _ _ e1, ht _ _ e2⟩
/-- the object of a dict with the entries xs -/
def ndP (P : Program) (w : World) (d : Addr) (xs : List (NestedKey × Addr × Value)) : Heap → Prop := fun h => ∃ o es ep, h.get? d = some o ∧ o.ExactDict ∧ o.data = .dict es ep ∧ es.toList = xs.map (entryOfKey (nestedKind P w))
theorem ndP_ok {P : Program} {w : World} {d : Addr} {xs : List (NestedKey × Addr × Value)} {H : Hp} {h : Heap} (n : ndP P w d xs h) : ObjOk P w H h d (.ext (ndP P w d xs)) := by
  refine ⟨n, ?_, fun h1 h2 n1 k => ?_⟩
  · obtain ⟨o, _, _, e, _⟩ := n
    exact ⟨o, e⟩
  · obtain ⟨o, es, ep, e, r⟩ := n1
    exact ⟨o, es, ep, k o e, r⟩
/-- at d stands a dict with the keys ks -/
def ND (P : Program) (w : World) (H : Hp) (d : Addr) (ks : List WK) : Prop := ∃ xs : List (NestedKey × Addr × Value), H d = some (.ext (ndP P w d xs)) ∧ xs.map (·.1) = ks.map wK ∧ (∀ x ∈ xs, ∃ k, x.1 = wK k ∧ KeyAt H x.2.1 k) ∧ ks.Nodup ∧ (d == sysModules) = false ∧ ks.length ≤ sizeLine
theorem ND.keep {P : Program} {w : World} {H H' : Hp} {d : Addr} {ks : List WK} (n : ND P w H d ks) (hd : H' d = H d) (ht : ∀ c ys, H c = some (.tup ys) → H' c = some (.tup ys)) : ND P w H' d ks := by
  obtain ⟨xs, e, r, k, q⟩ := n
  exact ⟨xs, by rw [hd]; exact e, r, fun x hx => let ⟨m, e1, e2⟩ := k x hx; ⟨m, e1, e2.keep ht⟩, q⟩
theorem ND.notup {P : Program} {w : World} {H : Hp} {d : Addr} {ks : List WK} (n : ND P w H d ks) : ∀ c ys, H c = some (.tup ys) → c ≠ d := by
  obtain ⟨xs, e, _⟩ := n
  exact fun c ys q => ne_of q e (fun z => nomatch z)
theorem wks_nodup {ks : List WK} (h : ks.Nodup) : (ks.map wK).Nodup := List.pairwise_map.mpr (h.imp fun ne e => ne (wK_inj e))
theorem nd_dict {P : Program} {w : World} {H : Hp} {h : Heap} {d : Addr} {ks : List WK} {xs : List (NestedKey × Addr × Value)} (ok : HOk P w H h) (e : H d = some (.ext (ndP P w d xs))) (r : xs.map (·.1) = ks.map wK) (k : ∀ x ∈ xs, ∃ k, x.1 = wK k ∧ KeyAt H x.2.1 k) (nd : ks.Nodup) : h.DictOfH (nestedKind P w) d xs := by
  obtain ⟨⟨o, es, ep, h1, h2, h3, h4⟩, _, _⟩ := (show ObjOk P w H h d (.ext _) from ok d _ e)
  refine ⟨o, es, ep, h1, h2, h3, h4, fun x hx => ?_, by rw [r]; exact wks_nodup nd⟩
  obtain ⟨m, e1, e2⟩ := k x hx
  rw [e1]
  exact key_at ok e2
theorem at_mem {ks : List WK} {xs : List (NestedKey × Addr × Value)} (r : xs.map (·.1) = ks.map wK) (k : WK) : (atKey xs (wK k)).isSome = decide (k ∈ ks) := by
  unfold atKey
  rw [Option.isSome_map]
  apply Bool.eq_iff_iff.mpr
  rw [List.find?_isSome, decide_eq_true_iff]
  constructor
  · rintro ⟨x, hx, e⟩
    have e := of_decide_eq_true e
    have : x.1 ∈ ks.map wK := by rw [← r]; exact List.mem_map.mpr ⟨x, hx, rfl⟩
    obtain ⟨m, hm, em⟩ := List.mem_map.mp this
    rw [e] at em
    rw [← wK_inj em]
    exact hm
  · intro h
    have : wK k ∈ xs.map (·.1) := by rw [r]; exact List.mem_map.mpr ⟨k, h, rfl⟩
    obtain ⟨x, hx, e⟩ := List.mem_map.mp this
    exact ⟨x, hx, decide_eq_true e⟩
/-- k not in d -/
def rNotInN (P : Program) (w : World) : R2 := fun y x H Q => ∃ a b k ks, x = .ref a ∧ y = .ref b ∧ ND P w H a ks ∧ KeyAt H b k ∧ Q (.bl (!decide (k ∈ ks))) H
theorem op_notInN {X : Cx} (hu : X.A.units + 9 < cLine) : OpR X (compareOp .NotIn) (rNotInN X.prog X.w) := by
  intro pins s σ H y x v u Q I ry rx ⟨a, b, k, ks, ex, ey, nd, kb, q⟩
  subst ex ey
  cases (show v = Value.ref b from ry)
  cases (show u = Value.ref a from rx)
  obtain ⟨xs, e, r, kx, no, hd, _⟩ := nd
  refine wpAny_notIn_heap (knd := nestedKind X.prog X.w) (by show X.A.in1.units + 8 < cLine; rw [Around.in1_units]; omega) (key_at I.hok kb) hd (nd_dict I.hok e r kx no) ?_
  rw [at_mem r]
  exact ⟨.bl (!decide (k ∈ ks)), H, I.tok _, rfl, q⟩
/-- d[k] = v, k not there -/
def sPutN (P : Program) (w : World) (td ty tv : TE) : TS := fun D σ H => tv σ H fun v H1 => td σ H1 fun x H2 => ty σ H2 fun y H3 => ∃ a b k ks, x = .ref a ∧ y = .ref b ∧ ND P w H3 a ks ∧ KeyAt H3 b k ∧ k ∉ ks ∧ ks.length < sizeLine ∧ ∀ H4, ND P w H4 a (ks ++ [k]) → (∀ c, c ≠ a → H4 c = H3 c) → D.nx σ H4
theorem ps_putN {X : Cx} {o i value : Expr} {pos pos' : Pos} {td ty tv : TE} (hu : X.A.units + 9 < cLine) (ho : PE X o td) (hi : PE X i ty) (hv : PE X value tv) (hs : swapsWith value (some (.Subscript o i pos')) pos.line X.env = pure false) :
    PS X (.Assign [.Subscript o i pos'] value pos) (sPutN X.prog X.w td ty tv) := by
  refine ⟨fun pins s σ H D I h => ?_⟩
  refine wpAny_Assign_Subscript (thn (hv.run pins s σ H _ I h) fun r s1 ⟨v, H1, I1, rv, q1⟩ => thn (ho.run pins s1 σ H1 _ I1 q1) fun u s2 ⟨x, H2, I2, rx, q2⟩ => thn (hi.run pins s2 σ H2 _ I2 q2) fun iv s3 ⟨y, H3, I3, ry, a, b, k, ks, ex, ey, nd, kb, kn, lk, q3⟩ => ?_) hs
  subst ex ey
  cases (show u = Value.ref a from rx)
  cases (show iv = Value.ref b from ry)
  obtain ⟨xs, e, rr, kx, no, hd, _⟩ := id nd
  have lx : xs.length = ks.length := by have := congrArg List.length rr; rw [List.length_map, List.length_map] at this; exact this
  have an : atKey xs (wK k) = none := Option.isNone_iff_eq_none.mp (by
    have := at_mem rr k
    rw [decide_eq_false kn] at this
    cases q : atKey xs (wK k) with
    | none => rfl
    | some _ => rw [q] at this; cases this)
  refine wpAny_setItem_heap (knd := nestedKind X.prog X.w) (hsz := by omega) (by show X.A.in1.units + 8 < cLine; rw [Around.in1_units]; omega) (key_at I3.hok kb) (nd_dict I3.hok e rr kx no) fun h' dd' hs => ?_
  rw [storedH_new an] at dd'
  obtain ⟨q, es, ep, hq, h2, h3, h4, _, h5⟩ := dd'
  have ht : ∀ c ys, H3 c = some (.tup ys) → upd H3 a (.ext (ndP X.prog X.w a (xs ++ [(wK k, b, r)]))) c = some (.tup ys) := fun c ys ec => by
    rw [upd_ne (nd.notup c ys ec)]
    exact ec
  refine ⟨σ, _, d_write (ob := .ext (ndP X.prog X.w a (xs ++ [(wK k, b, r)]))) I3 (by rw [e]; exact True.intro) hs ⟨q, hq⟩ (ndP_ok ⟨q, es, ep, hq, h2, h3, h4⟩), q3 _ ⟨_, upd_same, ?_, fun x hx => ?_, ?_, hd, ?_⟩ fun c hc => upd_ne hc⟩
  · rw [List.map_append, rr, List.map_append]
    rfl
  · rcases List.mem_append.mp hx with z | z
    · obtain ⟨m, e1, e2⟩ := kx x z
      exact ⟨m, e1, e2.keep ht⟩
    · cases List.mem_singleton.mp z
      exact ⟨k, rfl, kb.keep ht⟩
  · refine List.nodup_append.mpr ⟨no, List.pairwise_singleton _ _, fun x hx y hy z => ?_⟩
    cases List.mem_singleton.mp hy
    exact kn (z ▸ hx)
  · rw [List.length_append]
    exact lk
/-- {k: v} -/
def tDispN (P : Program) (w : World) (tk tv : TE) : TE := fun σ H Q => ∀ p, H p = none → tk σ (upd H p (.dT [])) fun x H1 => tv σ H1 fun y H2 => ∃ b k, x = .ref b ∧ KeyAt H2 b k ∧ H2 p = some (.dT []) ∧ ∀ H3, ND P w H3 p [k] → (∀ c, c ≠ p → H3 c = H2 c) → Q (.ref p) H3
theorem pe_dispN {X : Cx} {k v : Expr} {tk tv : TE} {pos : Pos} (hu : X.A.units + 9 < cLine) (hk : PE X k tk) (hv : PE X v tv) : PE X (.Dict [some k] [v] pos) (tDispN X.prog X.w tk tv) := by
  refine ⟨fun pins s σ H Q I q => ?_⟩
  have hn := I.hok.fresh (Nat.le_refl s.heap.objs.size)
  have I1 := I.laid (a := s.heap.objs.size) (o := .dT []) (h' := s.heap.push { cls := .type "dict", data := .dict #[] }) (t' := s.toks) (fun _ _ q => Heap.get?_push_of_some _ q) (Nat.le_refl _) (dt_empty s.heap I.big)
  rw [PySem.arm_eval_Dict, PySem.zip_pairTrees [some k] [v] X.env pos rfl rfl, PySem.dictDisplay_pairs _ (by simp [PySem.pairTrees]) (by simp [PySem.pairTrees])]
  refine wpAny_bind (wpAny_standAt (wpAny_bind (PySem.wpAny_subDictH (knd := nestedKind X.prog X.w) (by show X.A.units + 8 < cLine; omega) (by simp [PySem.pairTrees]) ?_)))
  refine PySem.pairTrees_cons_walk (thn (hk.run pins _ σ _ _ I1 (q _ hn)) fun kv s1 ⟨x, H1, I2, rx, q1⟩ => thn (hv.run pins s1 σ H1 _ I2 q1) fun vv s2 ⟨y, H2, I3, ry, b, kk, ex, kb, ed, q2⟩ => PySem.pairTrees_nil_walk ?_)
  subst ex
  cases (show kv = Value.ref b from rx)
  obtain ⟨z, hd, xs, rel, dd⟩ := dt_of I3.hok ed
  cases rel
  have dd0 : s2.heap.DictOfH (nestedKind X.prog X.w) s.heap.objs.size [] := by
    obtain ⟨o, es, ep, h1, h2, h3, h4, _, _⟩ := dd
    exact ⟨o, es, ep, h1, h2, h3, h4, (fun _ hx => by cases hx), List.nodup_nil⟩
  refine ⟨[(wK kk, b, vv)], ⟨rfl, rfl, key_at I3.hok kb, trivial⟩, dd0, fun h' tk dd' hs => wpAny_pure ?_⟩
  obtain ⟨q, es, ep, hq, h2, h3, h4, _, h5⟩ := dd'
  have ht : ∀ c ys, H2 c = some (.tup ys) → upd H2 s.heap.objs.size (.ext (ndP X.prog X.w s.heap.objs.size [(wK kk, b, vv)])) c = some (.tup ys) := fun c ys ec => by
    rw [upd_ne (ne_of ec ed (fun z => nomatch z))]
    exact ec
  refine ⟨.ref s.heap.objs.size, _, d_write (ob := .ext (ndP X.prog X.w s.heap.objs.size [(wK kk, b, vv)])) I3 (by rw [ed]; exact True.intro) hs ⟨q, hq⟩ (ndP_ok ⟨q, es, ep, hq, h2, h3, h4⟩), rfl, q2 _ ⟨_, upd_same, rfl, fun x hx => ?_, List.pairwise_singleton _ _, hd, ?_⟩ fun c hc => upd_ne hc⟩
  · cases List.mem_singleton.mp hx
    exact ⟨kk, rfl, kb.keep ht⟩
  · show 1 ≤ sizeLine
    rw [sizeLine_eq]
    decide
end Gr

set_option Elab.async false
set_option maxRecDepth 100000
set_option linter.all false
/-! Ours: mathematics: the walk over all states of a row. -/
namespace KP
open PySem PySem.Spec PyProof.Rows L2 Gr GxR
def kk (us : List Int) (x : Int) : Nat := us.length - above (x - 1) us
theorem idx_lt {us : List Int} (hs : Srt us) {x : Int} {i : Nat} (h : i < us.length) : us[i] < x ↔ i < kk us x := by
  have a := above_iff hs (c := x - 1) (k := us.length - i) (by omega) (by omega)
  have e : us.length - (us.length - i) = i := by omega
  simp only [e] at a
  have b := above_le (x - 1) us
  unfold kk
  constructor
  · intro z
    by_cases y : us.length - i ≤ above (x - 1) us
    · have := a.mp y; omega
    · omega
  · intro z
    by_cases y : x - 1 < us[i]
    · have := a.mpr y; omega
    · omega
theorem kk_le (us : List Int) (x : Int) : kk us x ≤ us.length := Nat.sub_le _ _
theorem kk_mono (us : List Int) (x : Int) : kk us x ≤ kk us (x + 1) := by
  unfold kk
  have : above (x + 1 - 1) us ≤ above (x - 1) us := List.countP_mono_left fun y _ hy => decide_eq_true (by have := of_decide_eq_true hy; omega)
  omega
def Gr' (us : List Int) (x : Int) : List Int := us.take (kk us x)
theorem gr_succ {us : List Int} (hs : Srt us) (x : Int) : Gr' us (x + 1) = Gr' us x ++ List.replicate (kk us (x + 1) - kk us x) x := by
  have h1 := kk_mono us x
  have h2 := kk_le us (x + 1)
  unfold Gr'
  have e : kk us (x + 1) = kk us x + (kk us (x + 1) - kk us x) := by omega
  rw [e, List.take_add]
  have e2 : kk us x + (kk us (x + 1) - kk us x) - kk us x = kk us (x + 1) - kk us x := by omega
  rw [e2]
  congr 1
  refine List.eq_replicate_iff.mpr ⟨by rw [List.length_take, List.length_drop]; omega, fun y hy => ?_⟩
  obtain ⟨i, hi, rfl⟩ := List.getElem_of_mem hy
  rw [List.length_take, List.length_drop] at hi
  rw [List.getElem_take, List.getElem_drop]
  have hl : kk us x + i < us.length := by omega
  have a := (idx_lt hs (x := x) hl)
  have b := (idx_lt hs (x := x + 1) hl)
  have c := b.mpr (by omega)
  have d : ¬ us[kk us x + i] < x := fun z => by have := a.mp z; omega
  omega
theorem gr_row {ps : List (Int × Int)} {hs us : List Int} {st e : Int} (r : RowP ps hs st e us) (x : Int) : RowP ps hs st x (Gr' us x) := by
  have t := r.take (kk us x)
  refine ⟨t.srt, t.lo, fun y hy => ?_, t.opn, t.pol⟩
  obtain ⟨i, hi, rfl⟩ := List.getElem_of_mem hy
  unfold Gr' at hi ⊢
  rw [List.length_take] at hi
  rw [List.getElem_take]
  exact (idx_lt r.srt (by omega)).mpr (by omega)
theorem gr_all {us : List Int} {x : Int} (h : ∀ y ∈ us, y < x) : Gr' us x = us := by
  unfold Gr' kk
  rw [above_none fun y hy => by have := h y hy; omega]
  exact List.take_of_length_le (by omega)
theorem gr_none {us : List Int} {x : Int} (h : ∀ y ∈ us, x ≤ y) : Gr' us x = [] := by
  unfold Gr' kk
  rw [above_all fun y hy => by have := h y hy; omega, Nat.sub_self]
  rfl
theorem gr_pass {ps : List (Int × Int)} {hs us : List Int} {st e x : Int} (hp : ∀ p ∈ ps, 1 ≤ p.1 ∧ 1 ≤ p.2) (r : RowP ps hs st e us) {c : Nat} (h : Gr' us (x + 1) = Gr' us x ++ List.replicate c x) : (0 < c → openI hs x = true) ∧ ∀ p ∈ ps, (c : Int) + ((above (x - p.2) (Gr' us x) : Nat) : Int) ≤ p.1 := by
  have r1 := gr_row r (x + 1)
  refine ⟨fun hc => r1.opn x (by rw [h]; exact List.mem_append_right _ (List.mem_replicate.mpr ⟨by omega, rfl⟩)), fun p hp' => ?_⟩
  have f := r1.full hp' (hp p hp') (x := x) (fun y hy => by have := r1.hi y hy; omega)
  rw [h, above_app, above_all (ns := List.replicate c x) (fun y hy => by rw [List.eq_of_mem_replicate hy]; have := (hp p hp').2; omega), List.length_replicate] at f
  omega
/-- the counts of the last moments before s, the newest first -/
def keyS (rs : List Int) (span s : Nat) : List Int := (List.range span).map fun (j : Nat) => ((rs.count ((s : Int) - 1 - (j : Int)) : Nat) : Int)
theorem sumS {s span : Nat} {rs : List Int} (r : ∀ x ∈ rs, x < (s : Int)) : ∀ m : Nat, m ≤ span → ((keyS rs span s).take m).sum = ((above ((s : Int) - 1 - (m : Int)) rs : Nat) : Int)
  | 0, _ => by
    rw [above_none fun x hx => by have := r x hx; omega]
    rfl
  | m + 1, h => by
    have ih := sumS (span := span) r m (by omega)
    have e1 : above ((s : Int) - 1 - ((m + 1 : Nat) : Int)) rs = above ((s : Int) - 1 - (m : Int)) rs + rs.count ((s : Int) - 1 - (m : Int)) := by
      rw [← above_step, show ((s : Int) - 1 - ((m + 1 : Nat) : Int)) = (s : Int) - 1 - (m : Int) - 1 by omega]
    rw [e1]
    have hl : m < (keyS rs span s).length := by
      unfold keyS
      rw [List.length_map, List.length_range]
      omega
    rw [List.take_add_one, List.getElem?_eq_getElem hl]
    have e2 : (keyS rs span s)[m] = ((rs.count ((s : Int) - 1 - (m : Int)) : Nat) : Int) := by simp [keyS]
    rw [e2]
    simp only [Option.toList_some, List.sum_append, List.sum_cons, List.sum_nil]
    omega
theorem keyS_step {s span : Nat} {rs : List Int} (r : ∀ x ∈ rs, x < (s : Int)) (c : Nat) : keyS (rs ++ List.replicate c (s : Int)) span (s + 1) = ((c : Int) :: keyS rs span s).take span := by
  cases span with
  | zero => rfl
  | succ n =>
    have e : (keyS rs (n + 1) s).take n = (List.range n).map fun (j : Nat) => ((rs.count ((s : Int) - 1 - (j : Int)) : Nat) : Int) := by
      unfold keyS
      rw [← List.map_take, List.take_range, Nat.min_eq_left (by omega)]
    rw [List.take_succ_cons, e]
    unfold keyS
    rw [List.range_succ_eq_map, List.map_cons, List.map_map]
    congr 1
    · rw [List.count_append, show ((s + 1 : Nat) : Int) - 1 - ((0 : Nat) : Int) = s by omega, List.count_replicate_self, List.count_eq_zero.mpr (fun hx => by have := r _ hx; omega)]
      simp
    · refine List.map_congr_left fun j _ => ?_
      show ((List.count (((s + 1 : Nat) : Int) - 1 - ((j + 1 : Nat) : Int)) _ : Nat) : Int) = _
      rw [List.count_append, show ((s + 1 : Nat) : Int) - 1 - ((j + 1 : Nat) : Int) = (s : Int) - 1 - j by omega, List.count_replicate, if_neg (by simp; omega), Nat.add_zero]
/-- c asks at the moment t, behind the counts past -/
def LetP (ps : List (Int × Int)) (hs : List Int) (k : WK) (c : Nat) : Prop := 0 < c → openI hs k.1 = true ∧ ∀ p ∈ ps, (c : Int) + (k.2.take (p.2.toNat - 1)).sum ≤ p.1
theorem LetP.mono {ps : List (Int × Int)} {hs : List Int} {k : WK} {c d : Nat} (h : LetP ps hs k c) (hd : d ≤ c) : LetP ps hs k d := fun z => by
  obtain ⟨a, b⟩ := h (by omega)
  exact ⟨a, fun p hp => by have := b p hp; omega⟩
def stW (M span : Nat) (rs : List Int) (s : Nat) : WK := (((s % M : Nat) : Int), keyS rs span s)
def stepW (M span : Nat) (k : WK) (c : Nat) : WK := ((k.1 + 1) % (M : Int), ((c : Int) :: k.2).take span)
def SpanOk (ps : List (Int × Int)) (span : Nat) : Prop := ∀ p ∈ ps, 1 ≤ p.1 ∧ 1 ≤ p.2 ∧ p.2 ≤ (span : Int) + 1
theorem let_iff {ps : List (Int × Int)} {hs rs : List Int} {M span s c : Nat} (r : ∀ x ∈ rs, x < (s : Int)) (hM : hs.length ∣ M) (hp : SpanOk ps span) : LetP ps hs (stW M span rs s) c ↔ (0 < c → openI hs ((s : Nat) : Int) = true ∧ ∀ p ∈ ps, (c : Int) + ((above ((s : Int) - p.2) rs : Nat) : Int) ≤ p.1) := by
  unfold LetP stW
  have e : ∀ p ∈ ps, ((keyS rs span s).take (p.2.toNat - 1)).sum = ((above ((s : Int) - p.2) rs : Nat) : Int) := fun p hp' => by
    have q := hp p hp'
    rw [sumS (span := span) r (p.2.toNat - 1) (by omega), show (s : Int) - 1 - ((p.2.toNat - 1 : Nat) : Int) = (s : Int) - p.2 by omega]
  rw [openI_dvd hM s]
  constructor
  · intro h z
    obtain ⟨a, b⟩ := h z
    exact ⟨a, fun p hp' => by rw [← e p hp']; exact b p hp'⟩
  · intro h z
    obtain ⟨a, b⟩ := h z
    exact ⟨a, fun p hp' => by rw [e p hp']; exact b p hp'⟩
theorem st_step {rs : List Int} {M span s : Nat} (r : ∀ x ∈ rs, x < (s : Int)) (c : Nat) : stW M span (rs ++ List.replicate c (s : Int)) (s + 1) = stepW M span (stW M span rs s) c := by
  unfold stW stepW
  rw [keyS_step r]
  congr 1
  show (((s + 1) % M : Nat) : Int) = (((s % M : Nat) : Int) + 1) % (M : Int)
  rw [← Nat.mod_add_mod]
  rfl
theorem grow0 {ps : List (Int × Int)} {hs : List Int} {s : Nat} {rs : List Int} (r : RowP ps hs 0 (s : Int) rs) (hp : ∀ p ∈ ps, 1 ≤ p.1 ∧ 1 ≤ p.2) {c : Nat} (h : 0 < c → openI hs ((s : Nat) : Int) = true ∧ ∀ p ∈ ps, (c : Int) + ((above ((s : Int) - p.2) rs : Nat) : Int) ≤ p.1) : RowP ps hs 0 ((s + 1 : Nat) : Int) (rs ++ List.replicate c (s : Int)) := by
  have g := RowP.grow (st := 0) (s := s) (rs := rs) (ps := ps) (hs := hs) (c := c) (by rw [Int.zero_add]; exact r) hp (fun z => by rw [Int.zero_add]; exact (h z).1) (fun p hp' => by
    rw [Int.zero_add]
    by_cases z : 0 < c
    · exact (h z).2 p hp'
    · have := r.full hp' (hp p hp') (x := (s : Int)) fun y hy => by have := r.hi y hy; omega
      omega)
  simp only [Int.zero_add] at g
  exact g
/-- the state of a row that is let -/
def Snd (ps : List (Int × Int)) (hs : List Int) (M span : Nat) (k : WK) : Prop := ∃ (s : Nat) (rs : List Int), RowP ps hs 0 (s : Int) rs ∧ k = stW M span rs s
theorem Snd.step {ps : List (Int × Int)} {hs : List Int} {M span c : Nat} {k : WK} (hM : hs.length ∣ M) (hp : SpanOk ps span) (h : Snd ps hs M span k) (l : LetP ps hs k c) : Snd ps hs M span (stepW M span k c) := by
  obtain ⟨s, rs, r, rfl⟩ := h
  exact ⟨s + 1, _, grow0 r (fun p hp' => ⟨(hp p hp').1, (hp p hp').2.1⟩) ((let_iff r.hi hM hp).mp l), (st_step r.hi c).symm⟩
theorem Snd.loose {ps : List (Int × Int)} {hs : List Int} {qs : List (Int × Int)} {os : List Int} {M span c : Nat} {k : WK} (hM : hs.length ∣ M) (oM : os.length ∣ M) (hp : SpanOk ps span) (hq : SpanOk qs span) (h : Snd ps hs M span k) (l : LetP ps hs k c) (n : ¬ LetP qs os k c) : ¬ Stricter ps hs qs os := fun st => by
  obtain ⟨s, rs, r, rfl⟩ := h
  have g := grow0 r (fun p hp' => ⟨(hp p hp').1, (hp p hp').2.1⟩) ((let_iff r.hi hM hp).mp l)
  have pl := st _ (asc_srt0 g.srt g.lo) g.polite
  have t := polite_rowP pl g.srt g.lo g.hi
  refine n ((let_iff r.hi oM hq).mpr fun z => ⟨t.opn _ (List.mem_append_right _ (List.mem_replicate.mpr ⟨by omega, rfl⟩)), fun q hq' => ?_⟩)
  have f := t.full hq' ⟨(hq q hq').1, (hq q hq').2.1⟩ (x := (s : Int)) (fun y hy => by have := t.hi y hy; omega)
  rw [above_app, above_all (ns := List.replicate c (s : Int)) (fun y hy => by rw [List.eq_of_mem_replicate hy]; have := (hq q hq').2.1; omega), List.length_replicate] at f
  omega
def Closed (ps : List (Int × Int)) (hs : List Int) (qs : List (Int × Int)) (os : List Int) (M span top : Nat) (ks : List WK) : Prop := ((0 : Int), List.replicate span (0 : Int)) ∈ ks ∧ ∀ k ∈ ks, ∀ c, c ≤ top → LetP ps hs k c → LetP qs os k c ∧ stepW M span k c ∈ ks
theorem closed_walk {ps : List (Int × Int)} {hs : List Int} {qs : List (Int × Int)} {os : List Int} {M span top : Nat} {ks : List WK} (hM : hs.length ∣ M) (oM : os.length ∣ M) (hp : SpanOk ps span) (hq : SpanOk qs span) (cl : Closed ps hs qs os M span top ks) {us : List Int} {e : Int} (r : RowP ps hs 0 e us) (lu : us.length ≤ top) : ∀ s : Nat, stW M span (Gr' us (s : Int)) s ∈ ks ∧ RowP qs os 0 (s : Int) (Gr' us (s : Int))
  | 0 => by
    rw [gr_none (x := ((0 : Nat) : Int)) fun y hy => r.lo y hy]
    refine ⟨?_, srt_nil, (fun x hx => by cases hx), (fun x hx => by cases hx), (fun x hx => by cases hx), fun i hi => absurd hi (Nat.not_lt_zero i)⟩
    have : stW M span [] 0 = ((0 : Int), List.replicate span (0 : Int)) := by
      unfold stW keyS
      refine Prod.ext (by show ((0 % M : Nat) : Int) = 0; rw [Nat.zero_mod]; rfl) ?_
      show (List.range span).map (fun (j : Nat) => (0 : Int)) = _
      rw [List.map_const', List.length_range]
    rw [this]
    exact cl.1
  | s + 1 => by
    obtain ⟨m, q⟩ := closed_walk hM oM hp hq cl r lu s
    have g := gr_succ r.srt ((s : Nat) : Int)
    have rr := gr_row r ((s : Nat) : Int)
    have e1 : ((s + 1 : Nat) : Int) = ((s : Nat) : Int) + 1 := by omega
    have gp := gr_pass (fun p hp' => ⟨(hp p hp').1, (hp p hp').2.1⟩) r g
    have lc : kk us ((s : Nat) + 1) - kk us ((s : Nat) : Int) ≤ top := by
      have := kk_le us (((s : Nat) : Int) + 1)
      omega
    obtain ⟨l2, st⟩ := cl.2 _ m _ lc ((let_iff rr.hi hM hp).mpr fun z => ⟨gp.1 z, gp.2⟩)
    rw [e1, g]
    refine ⟨by rw [st_step rr.hi]; exact st, ?_⟩
    have := grow0 q (fun p hp' => ⟨(hq p hp').1, (hq p hp').2.1⟩) ((let_iff rr.hi oM hq).mp l2)
    rw [e1] at this
    exact this
theorem closed_row {ps : List (Int × Int)} {hs : List Int} {qs : List (Int × Int)} {os : List Int} {M span top : Nat} {ks : List WK} (hM : hs.length ∣ M) (oM : os.length ∣ M) (hp : SpanOk ps span) (hq : SpanOk qs span) (cl : Closed ps hs qs os M span top ks) {us : List Int} {e : Int} (r : RowP ps hs 0 e us) (lu : us.length ≤ top) : Polite qs os us := by
  have w := (closed_walk hM oM hp hq cl r lu e.toNat).2
  rw [gr_all fun y hy => by have := r.hi y hy; omega] at w
  exact w.polite
theorem closed_strict {ps : List (Int × Int)} {hs : List Int} {qs : List (Int × Int)} {os : List Int} {M span top : Nat} {ks : List WK} (hM : hs.length ∣ M) (oM : os.length ∣ M) (hp : SpanOk ps span) (hq : SpanOk qs span) (ht : 1 ≤ top) (hk : ∀ q ∈ qs, q.1 + 1 ≤ (top : Int)) (cl : Closed ps hs qs os M span top ks) : Stricter ps hs qs os := fun rs ha pl => by
  have p1 : P1 ps := fun p hp' => (hp p hp').1
  have q1 : P1 qs := fun p hp' => (hq p hp').1
  have pi := (politeH_iff p1).mp pl
  refine (politeH_iff q1).mpr ⟨fun x hx => ?_, fun q hm i hi hki => ?_⟩
  · have pu : Polite ps hs [x] := (politeH_iff p1).mpr ⟨fun y hy => by rw [List.mem_singleton.mp hy]; exact pi.1 x hx, fun q hq i hi hk => by
      have := p1 q hq
      have hi : i < 1 := hi
      omega⟩
    have x0 := asc_ge0 ha x hx
    have r := polite_rowP pu (asc_srt (m := 0) ⟨x0, trivial⟩) (lo := 0) (hi := x + 1) (fun y hy => by rw [List.mem_singleton.mp hy]; exact x0) (fun y hy => by rw [List.mem_singleton.mp hy]; omega)
    exact ((politeH_iff q1).mp (closed_row hM oM hp hq cl r ht)).1 x List.mem_cons_self
  · apply Classical.byContradiction
    intro z
    obtain ⟨us, ru, lu, s0⟩ := near_row p1 ha pl (q1 q hm) hi hki (by omega)
    generalize rs.getD (i - q.1.toNat) 0 = a at *
    have r0 : RowP ps hs 0 (a + q.2) us := ⟨ru.srt, fun x hx => Int.le_trans s0 (ru.lo x hx), ru.hi, ru.opn, ru.pol⟩
    have kq := hk q hm
    have k1 := q1 q hm
    have pq := ((politeH_iff q1).mp (closed_row hM oM hp hq cl r0 (by omega))).2 q hm q.1.toNat (by omega) (by omega)
    have g : ∀ j (hj : j < us.length), us.getD j 0 = us[j] := fun j hj => by rw [List.getD_eq_getElem?_getD, List.getElem?_eq_getElem hj]; rfl
    rw [Nat.sub_self, g 0 (by omega), g _ (by omega)] at pq
    have h1 := ru.lo _ (List.getElem_mem (l := us) (n := 0) (by omega))
    have h2 := ru.hi _ (List.getElem_mem (l := us) (n := q.1.toNat) (by omega))
    omega
/-! how many states there are -/
def KeyB (M span top : Nat) (k : WK) : Prop := (0 ≤ k.1 ∧ k.1 < (M : Int)) ∧ k.2.length = span ∧ ∀ x ∈ k.2, 0 ≤ x ∧ x ≤ (top : Int)
theorem KeyB.step {M span top c : Nat} {k : WK} (h : KeyB M span top k) (h0 : 0 < M) (hc : c ≤ top) : KeyB M span top (stepW M span k c) := by
  refine ⟨⟨Int.emod_nonneg _ (by omega), Int.emod_lt_of_pos _ (by omega)⟩, ?_, fun x hx => ?_⟩
  · show (List.take span _).length = span
    rw [List.length_take, List.length_cons, h.2.1]
    omega
  · rcases List.mem_cons.mp (List.mem_of_mem_take hx) with e | e
    · rw [e]; omega
    · exact h.2.2 x e
def words (top : Nat) : Nat → List (List Int)
  | 0 => [[]]
  | n + 1 => (words top n).flatMap fun w => (List.range (top + 1)).map fun (c : Nat) => (c : Int) :: w
theorem flatW_len {α β : Type} {f : α → List β} {n : Nat} (h : ∀ x, (f x).length = n) : ∀ l : List α, (l.flatMap f).length = l.length * n
  | [] => by rw [List.flatMap_nil, List.length_nil, List.length_nil, Nat.zero_mul]
  | x :: l => by rw [List.flatMap_cons, List.length_append, h, flatW_len h l, List.length_cons, Nat.succ_mul, Nat.add_comm]
theorem words_len (top : Nat) : ∀ n, (words top n).length = (top + 1) ^ n
  | 0 => rfl
  | n + 1 => by
    rw [words, flatW_len (n := top + 1) (fun w => by rw [List.length_map, List.length_range]), words_len top n, Nat.pow_succ]
theorem words_mem {top : Nat} : ∀ {n : Nat} {w : List Int}, w.length = n → (∀ x ∈ w, 0 ≤ x ∧ x ≤ (top : Int)) → w ∈ words top n
  | 0, [], _, _ => List.mem_cons_self
  | n + 1, x :: w, l, h => by
    have l : w.length + 1 = n + 1 := l
    refine List.mem_flatMap.mpr ⟨w, words_mem (by omega) fun y hy => h y (List.mem_cons_of_mem _ hy), List.mem_map.mpr ⟨x.toNat, List.mem_range.mpr ?_, ?_⟩⟩
    · have := h x List.mem_cons_self; omega
    · have := h x List.mem_cons_self
      rw [show ((x.toNat : Nat) : Int) = x by omega]
theorem keys_few {M span top : Nat} {ks : List WK} (nd : ks.Nodup) (h : ∀ k ∈ ks, KeyB M span top k) : ks.length ≤ (top + 1) ^ span * M := by
  have := len_sub (m := (words top span).flatMap fun w => (List.range M).map fun (c : Nat) => (((c : Nat) : Int), w)) nd fun k hk => by
    obtain ⟨h1, h2, h3⟩ := h k hk
    refine List.mem_flatMap.mpr ⟨k.2, words_mem h2 h3, List.mem_map.mpr ⟨k.1.toNat, List.mem_range.mpr (by omega), ?_⟩⟩
    rw [show ((k.1.toNat : Nat) : Int) = k.1 by omega]
  rw [flatW_len (n := M) (fun w => by rw [List.length_map, List.length_range]), words_len] at this
  exact this
end KP

set_option Elab.async false
set_option maxRecDepth 100000
set_option maxHeartbeats 4000000
set_option linter.all false
/-! Ours: _law_line_formed, _law_below, _law_lets. -/
namespace KP
open PySem PySem.Spec PyProof.Rows L2 Gr GxR
theorem cr_sumTB {X : Cx} {s : Shared} {H : Hp} {sc : Scope} {en : Env} {fp : List Addr} (hd : X.A.handled = none) : CallR (X.blk s H sc en fp) (.builtin "sum") (rSumT X.K) := cr_sumT (X := X.blk s H sc en fp) hd
theorem dp_of_pairs {K : PySem.W.Frag} {H : Hp} : ∀ {vs : List V}, (∀ v ∈ vs, ∃ (b : Addr) (q : Int × Int), v = .ref b ∧ H b = some (.tup [.int q.1, .int q.2])) → ∃ qs : List (Int × Int), qs.length = vs.length ∧ DpAll K H vs ((qs.map inD).map tw)
  | [], _ => ⟨[], rfl, .nil⟩
  | v :: vs, h => by
    obtain ⟨qs, l, d⟩ := dp_of_pairs (K := K) (vs := vs) fun x hx => h x (List.mem_cons_of_mem _ hx)
    obtain ⟨b, q, rfl, e⟩ := h v List.mem_cons_self
    exact ⟨q :: qs, by rw [List.length_cons, List.length_cons, l], .cons (.tup (SqT.of e) (.cons (.int _) (.cons (.int _) .nil))) d⟩
theorem lay_pairs : ∀ qs : List (Int × Int), PyData.canLayAll0 ((qs.map inD).map tw) = true ∧ PyData.depthAll ((qs.map inD).map tw) ≤ 3
  | [] => ⟨rfl, by simp [PyData.depthAll]⟩
  | q :: qs => by
    have h := lay_pairs qs
    refine ⟨?_, ?_⟩
    · simp only [List.map_cons, PyData.canLayAll0, h.1, Bool.and_true]
      rfl
    · simp only [List.map_cons, PyData.depthAll]
      have e : (tw (inD q)).depth ≤ 3 := by
        simp [tw, inD, PyData.depth, PyData.depthAll]
      omega
theorem shaped_pairs (qs : List (Int × Int)) : SeqAt.shaped (.list ((qs.map inD).map tw)) = true := by
  have h := lay_pairs qs
  unfold SeqAt.shaped
  rw [Bool.and_eq_true, decide_eq_true_eq]
  exact ⟨by rw [PyData.canLay0]; exact h.1, by simp only [PyData.depth]; omega⟩
theorem eqv_nil (ds : List PyData) : PyData.eqv (.list ds) (.list []) = ds.isEmpty := by
  cases ds with
  | nil => rfl
  | cons a l => rfl
def spLineF : Sp := fun vs H Q _ => ∃ (tv : V) (ts : List Int), vs = [tv] ∧ IsI H tv ts ∧ asc 0 ts ∧ Q (.bl true) H
def spBelow7 : Sp := fun vs H Q _ => ∃ (lv hv : V) (st n : Int) (ps : List (Int × Int)) (hs : List Int), vs = [lv, hv, .int st, .int n] ∧ Od H lv (.tuple ((ps.map inD).map tw)) ∧ Lm ps ∧ Od H hv (.tuple (hs.map PyData.int)) ∧ hs.length ≤ 12 ∧ (∃ j : Nat, ∃ h : j < hs.length, hs[j] = 1) ∧ ∀ ts H', Same H H' → SRow ps hs [] st ts → ts.length = 7 → Q (.int (((ts.filter fun x => decide (x < st + n)).length : Nat) : Int)) H'
open Classical in
def spLets : Sp := fun vs H Q _ => ∃ (rv : V) (t : Int) (b : Addr) (past : List Int) (c : Nat) (ps : List (Int × Int)) (hs : List Int), vs = [rv, .int t, .ref b, .int (c : Nat)] ∧ Od H rv (rulesP ps hs) ∧ Lm ps ∧ 0 < hs.length ∧ H b = some (.tup (past.map V.int)) ∧ past.length ≤ 100 ∧ ∀ H', Same H H' → Q (.bl (decide (LetP ps hs (t, past) c))) H'
section
variable {P : Program} {w : World} {K : PySem.W.Frag} {mg : Str → Option Value} {base : Heap}
theorem sc_linef : FnScope ["_law_told", "_law_last", "_law_time"] ["_law_told"] (defScope s_l_line_formed) := ⟨rfl, rfl, rfl, by decide +kernel, rfl, by decide +kernel, by decide +kernel⟩
theorem ok_linef (T : D K mg) : FnOk P w K mg base CX0 1 T.f_l_line_formed T.d_l_line_formed ["_law_told"] spLineF := by
  refine T.U_l_line_formed.ok sc_linef (fun vs H Q E h => ?_) (fun cdv A outer s H vs Q E hr h => ?_)
  · obtain ⟨tv, ts, rfl, _⟩ := h
    rfl
  · obtain ⟨tv, ts, rfl, hI, ha, k⟩ := h
    have nd := sc_linef.nd
    have mz : 5000 ≤ sizeLine := by decide
    refine ⟨_, pss_cons (ps_if (pt_not (pt_val (pe_callB call_isi (by rfl) T.isinstance (by decide +kernel) (pa_cons (pv 0) (pa_cons (pe_bltn (v := .ty "tuple") (by rfl) T.tuple (by decide +kernel) rfl) pa_nil)))))
        (pss_one (ps_ret pe_bl))
        (pss_nil))
      (pss_cons (ps_set (i := 1) nd rfl (.inl rfl) pe_int)
      (pss_cons (ps_for PassesOwn.never rfl (pi_tup (pv 0)) (pg_name (i := 2) nd rfl (.inl rfl))
        (pss_cons (ps_if (PW.pt (pw_or (pt_val (pe_callB call_isi (by rfl) T.isinstance (by decide +kernel) (pa_cons (pv 2) (pa_cons (pe_bltn (v := .ty "bool") (by rfl) T.bool (by decide +kernel) rfl) pa_nil)))) (pw_or (pt_not (pt_val (pe_callB call_isi (by rfl) T.isinstance (by decide +kernel) (pa_cons (pv 2) (pa_cons (pe_bltn (v := .ty "int") (by rfl) T.int (by decide +kernel) rfl) pa_nil))))) (pw_or1 (pt_cmpR op_lt (pv 2) (pv 1) (nomark _))))))
          (pss_one (ps_ret pe_bl))
          (pss_nil))
        (pss_one (ps_set (i := 1) nd rfl (.inl rfl) (pv 2)))))
      (pss_one (ps_ret pe_bl)))), ?_⟩
    obtain ⟨a, rfl, ea⟩ := hI
    have hod : Od H (.ref a) (.tuple (ts.map PyData.int)) := .tup ea (ints_od ts)
    refine ⟨_, rfl, _, _, _, _, _, rfl, .ty _, hod.ty, kTup (.tuple (ts.map PyData.int)), _, rfl, iteF (next_of ?_)⟩
    dsimp only
    refine gn ?_
    dsimp only
    refine ⟨_, rfl, a, rfl, ⟨_, SqT.of ea⟩, for_tup (K := K) (a := a) (xs := ts.map V.int) (fun i σ H2 => H2 = H ∧ ∃ (m : Int) (v2 : Option V), σ = [some (.ref a), some (.int m), v2] ∧ asc m (ts.drop i)) ⟨rfl, 0, none, rfl, ha⟩ (fun i σ H2 _ q => by rw [q.1]; exact SqT.of ea) ?_ ?_⟩
    · rintro i x σ H2 hx ⟨rfl, m, v4, rfl, hm⟩
      rw [List.getElem?_map] at hx
      obtain ⟨x, hx', rfl⟩ := Option.map_eq_some_iff.mp hx
      obtain ⟨hi, hxe⟩ := List.getElem?_eq_some_iff.mp hx'
      rw [List.drop_eq_getElem_cons hi, hxe] at hm
      refine gn ?_
      dsimp only
      have hd : Od H2 (.int x) (.int x) := .int x
      refine ⟨_, rfl, _, _, _, _, _, rfl, .ty _, hd.ty, kBool (.int x), _, rfl, iteF ?_⟩
      refine ⟨_, rfl, _, _, _, _, _, rfl, .ty _, hd.ty, kInt (.int x), _, rfl, iteF ?_⟩
      refine ⟨_, rfl, _, rfl, _, _, rfl, rfl, _, rfl, ?_⟩
      rw [decide_eq_false (by have := hm.1; omega)]
      refine iteF (next_of ?_)
      dsimp only
      exact ⟨_, rfl, gn ⟨rfl, x, _, rfl, hm.2⟩⟩
    · rintro σ H2 ⟨rfl, m, v4, rfl, hm⟩
      exact k
theorem sc_below7 : FnScope ["_law_pairs", "_law_clock", "_law_start", "_law_wide", "_law_time"] ["_law_pairs", "_law_clock", "_law_start", "_law_wide"] (defScope s_l_below) := ⟨rfl, rfl, rfl, by decide +kernel, rfl, by decide +kernel, by decide +kernel⟩
theorem ok_below7 (T : D K mg) : FnOk P w K mg base CX0 3 T.f_l_below T.d_l_below ["_law_pairs", "_law_clock", "_law_start", "_law_wide"] spBelow7 := by
  refine T.U_l_below.ok sc_below7 (fun vs H Q E h => ?_) (fun cdv A outer s H vs Q E hr h => ?_)
  · obtain ⟨lv, hv, st, n, ps, hs, rfl, _⟩ := h
    rfl
  · obtain ⟨lv, hv, st, n, ps, hs, rfl, hL, hg, hH, h12, ho, k⟩ := h
    have nd := sc_below7.nd
    have mz : 5000 ≤ sizeLine := by decide
    refine ⟨_, pss_one (ps_ret (pe_callB call_len_seq (by rfl) T.len PySem.boot_len (pa_cons (pe_lc (own := [("_law_time", 4)]) (g := gName 4) rfl nd (pi_list (pe_call (ok_soon T) hr rfl T.g_l_soonest T.U_l_soonest.kp T.b_l_soonest .nil pass0 (pa_cons (pv 0) (pa_cons (pv 1) (pa_cons (pe_tup pa_nil) (pa_cons pe_int (pa_cons (pv 2) pa_nil))))))) (blkOk_by (N := ["_law_pairs", "_law_clock", "_law_start", "_law_wide", "_law_time"]) (sc := defScope s_l_below) (by decide +kernel)) (fun _ _ _ _ _ => pg_name (i := 4) nd rfl (.inl rfl)) (fun _ _ _ _ _ => (pts_one (pt_cmpR op_lt (pv 4) (pe_op op_add (pv 2) (pv 3)) (nomark _)))) (fun _ _ _ _ _ => pv 4)) pa_nil))), ?_⟩
    refine ⟨_, rfl, _, rfl, by show 0 ≤ sizeLine; omega, fun c0 hc0 => ?_⟩
    have s0 := same_upd (o := HO.tup []) hc0
    dsimp only
    refine ⟨_, rfl, lv, hv, c0, 7, st, ps, hs, [], rfl, hL.same s0, fun p hp => ⟨(hg.2 p hp).1, (hg.2 p hp).2.2.1, by have := (hg.2 p hp).2.2.2; omega⟩, hH.same s0, h12, ho, .inr (SqT.of upd_same), Nat.zero_le _, by omega, by omega, fun z ts H1 s1 _ ez lt sr => ?_⟩
    have s01 := s0.trans s1
    refine ⟨z, rfl, ⟨_, SqL.of ez⟩, fun D hD => lc_list (K := K) (a := z) (xs := ts.map V.int) (fun j Hx => Same H1 Hx ∧ Hx D = some (.lst (((ts.take j).filter (fun x => decide (x < st + n))).map V.int))) ⟨same_upd hD, upd_same⟩ (fun j Hx _ q => SqL.of (q.1 _ _ ez)) ?_ ?_⟩
    · rintro j x Hx hx ⟨sx, ex⟩
      rw [List.getElem?_map] at hx
      obtain ⟨t, hn', rfl⟩ := Option.map_eq_some_iff.mp hx
      refine ⟨rfl, ?_⟩
      have et : ts.take (j + 1) = ts.take j ++ [t] := by rw [List.take_add_one, hn']; rfl
      refine ⟨_, rfl, _, rfl, _, rfl, _, _, rfl, rfl, _, _, rfl, rfl, _, rfl, ite2 (fun h => ?_) (fun h => ?_)⟩
      · refine ⟨_, rfl, _, ex, ?_, same_into hD sx, ?_⟩
        · rw [List.length_map]
          have := List.length_filter_le (fun x => decide (x < st + n)) (ts.take j)
          rw [List.length_take] at this
          have : ts.length = 7 := lt
          omega
        · rw [upd_same, et, List.filter_append, List.map_append, List.filter_cons_of_pos (by exact h)]
          rfl
      · refine ⟨sx, ?_⟩
        rw [ex, et, List.filter_append, List.filter_cons_of_neg (by exact h), List.filter_nil, List.append_nil]
    · rintro Hx ⟨sx, ex⟩
      rw [List.length_map, List.take_of_length_le (Nat.le_refl _)] at ex
      refine ⟨D, _, rfl, .inl (SqL.of ex), ?_⟩
      rw [List.length_map]
      exact k ts _ (s01.trans sx) sr lt
open Classical in
theorem sc_lets : FnScope ["_law_rule", "_law_clocks", "_law_past", "_law_count", "_law_pair"] ["_law_rule", "_law_clocks", "_law_past", "_law_count"] (defScope s_l_lets) := ⟨rfl, rfl, rfl, by decide +kernel, rfl, by decide +kernel, by decide +kernel⟩
open Classical in
theorem ok_lets (T : D K mg) : FnOk P w K mg base CX0 2 T.f_l_lets T.d_l_lets ["_law_rule", "_law_clocks", "_law_past", "_law_count"] spLets := by
  refine T.U_l_lets.ok sc_lets (fun vs H Q E h => ?_) (fun cdv A outer s H vs Q E hr h => ?_)
  · obtain ⟨rv, t, b, past, c, ps, hs, rfl, _⟩ := h
    rfl
  · obtain ⟨rv, t, b, past, c, ps, hs, rfl, hR, lp, h0, eb, l100, k⟩ := h
    have nd := sc_lets.nd
    have mz : 5000 ≤ sizeLine := by decide
    refine ⟨_, pss_cons (ps_if (PW.pt (pw_and (pt_cmpR op_gt (pv 3) pe_int (nomark _)) (pw_and1 (pt_not (pt_val (pe_call (ok_lopen T) hr rfl T.g_l_open T.U_l_open.kp T.b_l_open .nil pass0 (pa_cons (pe_ix ix_tup (pv 0) pe_int (fun _ _ => rfl)) (pa_cons (pv 1) pa_nil))))))))
        (pss_one (ps_ret pe_bl))
        (pss_nil))
      (pss_one (ps_ret (pe_cmpR (op_eqD hr.units) (pe_lc (own := [("_law_pair", 4)]) (g := gName 4) rfl nd (pi_tup (pe_ix ix_tup (pv 0) pe_int (fun _ _ => rfl))) (blkOk_by (N := ["_law_rule", "_law_clocks", "_law_past", "_law_count", "_law_pair"]) (sc := defScope s_l_lets) (by decide +kernel)) (fun _ _ _ _ _ => pg_name (i := 4) nd rfl (.inl rfl)) (fun _ _ _ _ _ => (pts_one (PW.pt (pw_and (pt_cmpR op_gt (pv 3) pe_int (nomark _)) (pw_and1 (pt_cmpR op_gt (pe_op op_add (pv 3) (pe_callB (cr_sumTB hr.hd) (by rfl) T.sum (by decide +kernel) (pa_cons (pe_slice sl_tupAB (pv 2) po_none (po_some (pe_op op_sub (pe_ix ix_tupB (pv 4) pe_int (fun _ _ => rfl)) pe_int))) pa_nil))) (pe_ix ix_tupB (pv 4) pe_int (fun _ _ => rfl)) (nomark _))))))) (fun _ _ _ _ _ => pv 4)) (pe_lst pa_nil) (nomark _)))), ?_⟩
    obtain ⟨ra, av, hv, rfl, er, oa, oh⟩ := od_rules hR
    obtain ⟨la, ls, rfl, el, ol⟩ := od_tup oa
    have lls : ls.length = ps.length := by rw [ol.len, List.length_map, List.length_map]
    have l4 := lp.1
    dsimp only
    refine cut1 (fun σ' H' => σ' = [some (.ref ra), some (.int t), some (.ref b), some (.int ((c : Nat) : Int)), none] ∧ H' = H ∧ (0 < c → openI hs t = true)) (fun N hN => ?_) ?_
    · refine ⟨_, rfl, _, _, rfl, rfl, _, rfl, ite2 (fun hc => ?_) (fun hc => iteF (next_of (hN _ _ ⟨rfl, rfl, fun z => absurd (decide_eq_true (show (0 : Int) < (c : Int) by omega)) hc⟩)))⟩
      have hc := of_decide_eq_true hc
      refine ⟨_, rfl, ra, _, 1, hv, rfl, rfl, SqT.of er, rfl, _, rfl, hv, hs, t, rfl, oh, h0, _, rfl, ?_⟩
      cases ho : openI hs t with
      | true => exact iteF (next_of (hN _ _ ⟨rfl, rfl, fun _ => ho⟩))
      | false =>
        refine iteT ?_
        have := k H (.refl _)
        rw [decide_eq_false (fun z => by have := (z (by omega)).1; rw [ho] at this; cases this)] at this
        exact this
    · rintro σ' H' ⟨rfl, rfl, hop⟩
      refine ⟨_, rfl, ra, _, 0, .ref la, rfl, rfl, SqT.of er, rfl, la, rfl, ⟨_, SqT.of el⟩, fun D2 hD2 => lc_tup (K := K) (a := la) (xs := ls) (fun j2 Hz => Same H' Hz ∧ ∃ vs : List V, Hz D2 = some (.lst vs) ∧ vs.length ≤ j2 ∧ (∀ v ∈ vs, ∃ (b : Addr) (q : Int × Int), v = .ref b ∧ Hz b = some (.tup [.int q.1, .int q.2])) ∧ (vs = [] ↔ ∀ (jj : Nat) (h : jj < ps.length), jj < j2 → 0 < c → (c : Int) + (past.take (ps[jj].2.toNat - 1)).sum ≤ ps[jj].1)) ⟨same_upd hD2, [], upd_same, Nat.zero_le _, (fun _ h => nomatch h), ⟨fun _ _ _ h => absurd h (Nat.not_lt_zero _), fun _ => rfl⟩⟩ (fun j2 Hz _ q => SqT.of (q.1 _ _ el)) ?_ ?_⟩
      · rintro j2 x Hz hx2 ⟨sz, vs, ez, lz, hvs, hiff⟩
        obtain ⟨q2, b2, hpm, rfl, eb2⟩ := pair_at ol hx2
        obtain ⟨hj2, hpe⟩ := List.getElem?_eq_some_iff.mp hpm
        have hq2 := lp.2 q2 (List.mem_of_getElem? hpm)
        refine ⟨rfl, ?_⟩
        refine ⟨_, rfl, _, _, rfl, rfl, _, rfl, ite2 (fun hc => ?_) (fun hc => iteF ?_)⟩
        · have hc := of_decide_eq_true hc
          refine ⟨_, rfl, _, rfl, ?_⟩
          dsimp only [tNoPart]
          refine ⟨_, rfl, b2, _, _, _, rfl, rfl, SqT.of (sz _ _ eb2), rfl, _, _, rfl, rfl, _, rfl, ?_⟩
          refine slice_tt (by omega) (sz _ _ eb) fun p2 Hz2 sz2 e2' => ?_
          rw [← List.map_take] at e2'
          have sB := sz.trans sz2
          refine ⟨p2, _, rfl, SqT.of e2', _, _, rfl, rfl, _, rfl, b2, _, _, _, rfl, rfl, SqT.of (sB _ _ eb2), rfl, _, _, rfl, rfl, _, rfl, ?_⟩
          have ew : (q2.2 - 1).toNat = q2.2.toNat - 1 := by omega
          rw [ew]
          refine ite2 (fun hbad => ?_) (fun hgood => ?_)
          · have hbad := of_decide_eq_true hbad
            have sC : Same H' (upd Hz2 D2 (.lst (vs ++ [.ref b2]))) := same_into hD2 sB
            refine ⟨_, rfl, vs, sz2 _ _ ez, by omega, sC, vs ++ [.ref b2], upd_same, by rw [List.length_append]; show _ + 1 ≤ _; omega, fun v hv' => ?_, ⟨fun z => absurd (congrArg List.length z) (by rw [List.length_append]; exact Nat.succ_ne_zero _), fun z => ?_⟩⟩
            · rcases List.mem_append.mp hv' with h | h
              · obtain ⟨b3, q3, rfl, e3⟩ := hvs v h
                refine ⟨b3, q3, rfl, (upd_ne fun z => ?_).trans (sz2 _ _ e3)⟩
                rw [z, ez] at e3
                cases e3
              · rw [List.mem_singleton.mp h]
                exact ⟨b2, q2, rfl, sC _ _ eb2⟩
            · have := z j2 hj2 (Nat.lt_succ_self _) (by omega)
              rw [hpe] at this
              omega
          · have hgood : ¬ q2.1 < (c : Int) + (past.take (q2.2.toNat - 1)).sum := fun z => hgood (decide_eq_true z)
            refine ⟨sB, vs, sz2 _ _ ez, by omega, fun v hv' => ?_, ⟨fun z jj h hjj c0 => ?_, fun z => hiff.mpr fun jj h hjj => z jj h (by omega)⟩⟩
            · obtain ⟨b3, q3, rfl, e3⟩ := hvs v hv'
              exact ⟨b3, q3, rfl, sz2 _ _ e3⟩
            · by_cases y : jj = j2
              · subst y
                rw [hpe]
                omega
              · exact hiff.mp z jj h (by omega) c0
        · refine ⟨sz, vs, ez, by omega, hvs, ⟨fun z jj h hjj c0 => ?_, fun z => hiff.mpr fun jj h hjj => z jj h (by omega)⟩⟩
          exact absurd (decide_eq_true (show (0 : Int) < (c : Int) by omega)) hc
      · rintro Hz ⟨sz, vs, ez, lz, hvs, hiff⟩
        refine ⟨by show 0 ≤ sizeLine; omega, fun e0 he0 => ?_⟩
        have se := same_upd (o := HO.lst []) he0
        have e00 : upd Hz e0 (.lst []) e0 = some (.lst []) := upd_same
        generalize upd Hz e0 (.lst []) = Hf at *
        obtain ⟨qs, lq, dq⟩ := dp_of_pairs (K := K) (H := Hf) (vs := vs) fun v hv' => by
          obtain ⟨b3, q3, rfl, e3⟩ := hvs v hv'
          exact ⟨b3, q3, rfl, se _ _ e3⟩
        have sF := sz.trans se
        refine ⟨.list ((qs.map inD).map tw), .list [], .lst (SqL.of (se _ _ ez)) dq, .lst (SqL.of e00) .nil, shaped_pairs qs, rfl, ?_⟩
        rw [eqv_nil]
        have hqs : ((qs.map inD).map tw).isEmpty = vs.isEmpty := by
          cases qs with
          | nil => cases vs with
            | nil => rfl
            | cons a l => cases lq
          | cons a l => cases vs with
            | nil => cases lq
            | cons a l => rfl
        rw [hqs]
        have := k Hf sF
        have e : decide (LetP ps hs (t, past) c) = vs.isEmpty := by
          apply Bool.eq_iff_iff.mpr
          rw [decide_eq_true_iff, List.isEmpty_iff, hiff]
          constructor
          · intro z jj h _ c0
            exact (z c0).2 _ (List.getElem_mem h)
          · intro z c0
            refine ⟨hop c0, fun p hp => ?_⟩
            obtain ⟨jj, hjj, rfl⟩ := List.getElem_of_mem hp
            exact z jj hjj (by omega) c0
        rw [e] at this
        exact this
end
end KP

set_option Elab.async false
set_option maxRecDepth 100000
set_option maxHeartbeats 4000000
set_option linter.all false
/-! Ours: _law_by_most. -/
namespace KP
open PySem PySem.Spec PyProof.Rows L2 Gr GxR
theorem filt_kk (us : List Int) (x : Int) : (us.filter fun y => decide (y < x)).length = kk us x := by
  unfold kk above
  have := List.length_eq_countP_add_countP (fun y : Int => decide (y < x)) (l := us)
  rw [← List.countP_eq_length_filter]
  have e : List.countP (fun a : Int => !decide (a < x)) us = List.countP (fun y : Int => decide (x - 1 < y)) us := List.countP_congr fun y _ => by
    simp only [Bool.not_eq_true', decide_eq_false_iff_not, decide_eq_true_iff]
    omega
  have e2 : us.length = List.countP (fun y : Int => decide (y < x)) us + List.countP (fun a : Int => !decide (a < x)) us := by
    rw [this]
    congr 1
    exact List.countP_congr fun y _ => by simp
  omega
open Classical in
def spByMost : Sp := fun vs H Q _ => ∃ (rv ov : V) (ps qs : List (Int × Int)) (hs os : List Int), vs = [rv, ov] ∧ Od H rv (rulesP ps hs) ∧ Od H ov (rulesP qs os) ∧ Lm ps ∧ Hrs hs ∧ Lm qs ∧ Hrs os ∧ ∀ H', Same H H' → Q (.bl (decide (Stricter ps hs qs os))) H'
section
variable {P : Program} {w : World} {K : PySem.W.Frag} {mg : Str → Option Value} {base : Heap}
theorem sc_bymost : FnScope ["_law_rule", "_law_other_here", "_law_pairs", "_law_clock", "_law_start", "_law_pair"] ["_law_rule", "_law_other_here"] (defScope s_l_by_most) := ⟨rfl, rfl, rfl, by decide +kernel, rfl, by decide +kernel, by decide +kernel⟩
open Classical in
theorem ok_bymost (T : D K mg) : FnOk P w K mg base CX0 4 T.f_l_by_most T.d_l_by_most ["_law_rule", "_law_other_here"] spByMost := by
  refine T.U_l_by_most.ok sc_bymost (fun vs H Q E h => ?_) (fun cdv A outer s H vs Q E hr h => ?_)
  · obtain ⟨rv, ov, ps, qs, hs, os, rfl, _⟩ := h
    rfl
  · obtain ⟨rv, ov, ps, qs, hs, os, rfl, hR, hO, lp, gh, lq, go, k⟩ := h
    have nd := sc_bymost.nd
    have mz : 5000 ≤ sizeLine := by decide
    have hp : P1 ps := fun q hq => (lp.2 q hq).1
    have hq : P1 qs := fun q hq => (lq.2 q hq).1
    refine ⟨_, pss_cons (ps_asg (pv 0) (pg_tup rfl (pgs_cons (pg_name (i := 2) nd rfl (.inl rfl)) (pgs_cons (pg_name (i := 3) nd rfl (.inl rfl)) pgs_nil))))
      (pss_cons (ps_for PassesOwn.never rfl (pi_range1 rfl T.range (pa_cons (pe_op op_mul (pe_callB call_len_seq (by rfl) T.len PySem.boot_len (pa_cons (pv 3) pa_nil)) (pe_callB call_len_seq (by rfl) T.len PySem.boot_len (pa_cons (pe_ix ix_tup (pv 1) pe_int (fun _ _ => rfl)) pa_nil))) pa_nil)) (pg_name (i := 4) nd rfl (.inl rfl))
        (pss_one (ps_if (PW.pt (pw_and (pt_val (pe_call (ok_lopen T) (hr.mono (by decide)) rfl T.g_l_open T.U_l_open.kp T.b_l_open .nil pass0 (pa_cons (pv 3) (pa_cons (pv 4) pa_nil)))) (pw_and1 (pt_not (pt_val (pe_call (ok_lopen T) (hr.mono (by decide)) rfl T.g_l_open T.U_l_open.kp T.b_l_open .nil pass0 (pa_cons (pe_ix ix_tup (pv 1) pe_int (fun _ _ => rfl)) (pa_cons (pv 4) pa_nil))))))))
          (pss_one (ps_ret pe_bl))
          (pss_nil))))
      (pss_cons (ps_for PassesOwn.never rfl (pi_range1 rfl T.range (pa_cons (pe_callB call_len_seq (by rfl) T.len PySem.boot_len (pa_cons (pv 3) pa_nil)) pa_nil)) (pg_name (i := 4) nd rfl (.inl rfl))
        (pss_one (ps_for PassesOwn.never rfl (pi_tup (pe_ix ix_tup (pv 1) pe_int (fun _ _ => rfl))) (pg_name (i := 5) nd rfl (.inl rfl))
          (pss_one (ps_if (pt_cmpR op_gt (pe_call (ok_below7 T) hr rfl T.g_l_below T.U_l_below.kp T.b_l_below .nil pass0 (pa_cons (pv 2) (pa_cons (pv 3) (pa_cons (pv 4) (pa_cons (pe_ix ix_tup (pv 5) pe_int (fun _ _ => rfl)) pa_nil))))) (pe_ix ix_tup (pv 5) pe_int (fun _ _ => rfl)) (nomark _))
            (pss_one (ps_ret pe_bl))
            (pss_nil))))))
      (pss_one (ps_ret pe_bl)))), ?_⟩
    obtain ⟨ra, av, hv, rfl, er, oa, oh⟩ := od_rules hR
    obtain ⟨oa', bv, ov', rfl, eo, ob, oo⟩ := od_rules hO
    obtain ⟨ha, rfl, eh⟩ := od_I oh
    obtain ⟨ga, rfl, eg⟩ := od_I oo
    obtain ⟨la, ls, rfl, el, ol⟩ := od_tup ob
    have lls : ls.length = qs.length := by rw [ol.len, List.length_map, List.length_map]
    have h12 := gh.h1
    have o12 := go.h1
    have h0 := gh.h0
    have o0 := go.h0
    have l4 := lq.1
    have hm : hs.length * os.length ≤ 144 := Nat.mul_le_mul h12 o12
    refine ⟨_, rfl, ra, _, rfl, SqT.of er, rfl, ?_⟩
    refine ⟨_, _, rfl, _, _, rfl, rfl, ?_⟩
    dsimp only [List.set]
    refine ⟨_, rfl, ha, _, rfl, .inr (SqT.of eh), _, rfl, oa', _, 1, .ref ga, rfl, rfl, SqT.of eo, rfl, ga, _, rfl, .inr (SqT.of eg), _, _, rfl, rfl, ?_, ?_⟩
    · exact .inl ⟨by rw [List.length_map]; omega, by rw [List.length_map]; omega⟩
    have em : ((hs.length : Nat) : Int) * ((os.length : Nat) : Int) = ((hs.length * os.length : Nat) : Int) := (Int.natCast_mul _ _).symm
    rw [List.length_map, List.length_map]
    obtain ⟨N, hN⟩ : ∃ N, N = hs.length * os.length := ⟨_, rfl⟩
    have eN : (((hs.length : Nat) : Int) * ((os.length : Nat) : Int)).toNat = N := by rw [em, hN]; rfl
    rw [← hN] at hm
    refine ⟨_, rfl, by rw [em, ← hN]; omega, by rw [em, ← hN]; omega, eN ▸ for_range (n := N) (fun i σ Hx => Hx = H ∧ (∀ t : Nat, t < i → openI hs t = true → openI os t = true) ∧ ∃ v4 : Option V, σ = [some (.ref ra), some (.ref oa'), some av, some (.ref ha), v4, none]) ⟨rfl, fun t h => absurd h (Nat.not_lt_zero t), _, rfl⟩ ?_ ?_⟩
    · rintro i σ Hx hi ⟨rfl, hb, v2, rfl⟩
      refine gn ?_
      dsimp only [List.set]
      have ei : (0 : Int) + (i : Int) = ((i : Nat) : Int) := by omega
      rw [ei]
      have more : (openI hs i = true → openI os i = true) → ∀ t : Nat, t < i + 1 → openI hs t = true → openI os t = true := fun h t ht => by
        by_cases z : t = i
        · rw [z]; exact h
        · exact hb t (by omega)
      refine ⟨_, rfl, _, rfl, .ref ha, hs, _, rfl, oh, h0, _, rfl, ite2 (fun h => ?_) (fun h => iteF (next_of ⟨rfl, more fun q => absurd q h, _, rfl⟩))⟩
      refine ⟨_, rfl, oa', _, 1, .ref ga, rfl, rfl, SqT.of eo, rfl, _, rfl, .ref ga, os, _, rfl, oo, o0, _, rfl, ?_⟩
      cases ho : openI os ((i : Nat) : Int) with
      | true => exact iteF (next_of ⟨rfl, more fun _ => ho, _, rfl⟩)
      | false =>
        refine iteT ?_
        have := k Hx (.refl _)
        rw [decide_eq_false (loose_shut hp hq h ho).no] at this
        exact this
    · rintro σ Hx ⟨rfl, hb, v2, rfl⟩
      have op : OpS hs os := ops_of (L := hs.length * os.length) (Nat.mul_pos h0 o0) (Nat.dvd_mul_right _ _) (Nat.dvd_mul_left _ _) (by rw [← hN]; exact hb)
      refine ⟨_, rfl, ha, _, rfl, .inr (SqT.of eh), ?_⟩
      rw [List.length_map]
      refine ⟨_, rfl, by omega, by omega, for_range (n := hs.length) (fun i σ Hy => Same Hx Hy ∧ (∀ st : Nat, st < i → ∀ q ∈ qs, ∀ (ts : List Int), SRow ps hs [] (st : Nat) ts → ∀ h : q.1.toNat < ts.length, (st : Int) + q.2 ≤ ts[q.1.toNat]) ∧ ∃ v4 v5 : Option V, σ = [some (.ref ra), some (.ref oa'), some av, some (.ref ha), v4, v5]) ⟨.refl _, (fun st h => absurd h (Nat.not_lt_zero st)), _, _, rfl⟩ ?_ ?_⟩
      · rintro i σ Hy hi ⟨sx, hb2, v4, v5, rfl⟩
        refine gn ?_
        dsimp only [List.set]
        have ei : (0 : Int) + (i : Int) = ((i : Nat) : Int) := by omega
        rw [ei]
        refine ⟨_, rfl, oa', _, 0, .ref la, rfl, rfl, SqT.of (sx _ _ eo), rfl, la, rfl, ⟨_, SqT.of (sx _ _ el)⟩, for_tup (K := K) (a := la) (xs := ls) (fun m σ Hz => Same Hx Hz ∧ (∀ j (hj : j < qs.length), j < m → ∀ (ts : List Int), SRow ps hs [] ((i : Nat) : Int) ts → ∀ h : qs[j].1.toNat < ts.length, (i : Int) + qs[j].2 ≤ ts[qs[j].1.toNat]) ∧ ∃ v5 : Option V, σ = [some (.ref ra), some (.ref oa'), some av, some (.ref ha), some (.int ((i : Nat) : Int)), v5]) ⟨sx, (fun j _ h => absurd h (Nat.not_lt_zero j)), _, rfl⟩ (fun m σ Hz _ z => SqT.of (z.1 _ _ el)) ?_ ?_⟩
        · rintro m x σ Hz hx ⟨sy, hc, v5, rfl⟩
          obtain ⟨q, b, hqm', rfl, eb⟩ := pair_at ol hx
          obtain ⟨hml, hme⟩ := List.getElem?_eq_some_iff.mp hqm'
          have hqm := List.mem_of_getElem? hqm'
          have lqq := lq.2 q hqm
          refine gn ?_
          dsimp only [List.set]
          refine ⟨_, rfl, _, rfl, _, rfl, _, rfl, b, _, _, _, rfl, rfl, SqT.of (sy _ _ eb), rfl, av, .ref ha, _, q.2, ps, hs, rfl, oa.same sy, lp, oh.same sy, h12, gh.one, fun ts H2 s2 sr lt => ?_⟩
          have s02 := sy.trans s2
          have so := row_srt0 sr
          have hk : q.1.toNat < ts.length := by omega
          have il := idx_lt so (x := (i : Int) + q.2) hk
          refine ⟨_, rfl, b, _, _, _, rfl, rfl, SqT.of (s02 _ _ eb), rfl, _, _, rfl, rfl, _, rfl, ite2 (fun h => ?_) (fun h => ?_)⟩
          · have h := of_decide_eq_true h
            rw [filt_kk] at h
            have near := il.mpr (by omega)
            have := k H2 s02
            rw [decide_eq_false (loose_soon (os := os) hq hqm (sr.take (q.1.toNat + 1)) (by rw [List.length_take]; omega) (by rw [List.getElem_take]; exact near)).no] at this
            exact this
          · have h : ¬ q.1 < (((ts.filter fun x => decide (x < (i : Int) + q.2)).length : Nat) : Int) := fun z => h (decide_eq_true z)
            rw [filt_kk] at h
            have far : (i : Int) + q.2 ≤ ts[q.1.toNat] := by
              apply Classical.byContradiction
              intro z
              have := il.mp (by omega)
              omega
            refine ⟨s02, fun j hj hjm => ?_, _, rfl⟩
            by_cases z : j = m
            · subst z
              intro us su hl
              have e := hme
              generalize qs[j] = q' at *
              subst e
              have o := SRow.one sr su (q'.1.toNat + 1) (by omega) (by omega)
              have : (ts.take (q'.1.toNat + 1))[q'.1.toNat]? = (us.take (q'.1.toNat + 1))[q'.1.toNat]? := by rw [o]
              rw [List.getElem?_take_of_lt (by omega), List.getElem?_take_of_lt (by omega), List.getElem?_eq_getElem hk, List.getElem?_eq_getElem hl] at this
              rw [← Option.some.inj this]
              exact far
            · exact hc j hj (by omega)
        · rintro σ Hz ⟨sy, hc, v5, rfl⟩
          refine ⟨sy, fun st hst q hq' => ?_, _, _, rfl⟩
          by_cases z : st = i
          · subst z
            obtain ⟨j, hj, rfl⟩ := List.getElem_of_mem hq'
            exact hc j hj (by omega)
          · exact hb2 st (by omega) q hq'
      · rintro σ Hy ⟨sx, hb2, v4, v5, rfl⟩
        have := k Hy sx
        rw [decide_eq_true (strict_of hp hq gh.one op hb2)] at this
        exact this
end
end KP

set_option Elab.async false
set_option maxRecDepth 100000
set_option maxHeartbeats 8000000
set_option linter.all false
/-! Ours: _law_pair_right. -/
namespace KP
open PySem PySem.Spec PyProof.Rows L2 Gr GxR
theorem small_bl (b : Bool) : SmallD 2 11 (.bool b) := by cases b <;> exact ⟨rfl, by decide +kernel, by decide +kernel⟩
theorem bool_facts (b : Bool) : (PyData.bool b).showable = true ∧ (PyData.bool b).depth ≤ 60 ∧ (PyData.bool b).shown.length ≤ sizeLine := (small_bl b).facts (by decide) (by decide)
theorem bools_facts {bs : List Bool} (l : bs.length ≤ 100) : (PyData.list (bs.map PyData.bool)).showable = true ∧ (PyData.list (bs.map PyData.bool)).depth ≤ 60 ∧ (PyData.list (bs.map PyData.bool)).shown.length ≤ sizeLine :=
  (small_lst (k := 2) (s := 11) (ds := bs.map PyData.bool) fun d hd => by
    obtain ⟨b, _, rfl⟩ := List.mem_map.mp hd
    exact small_bl b).facts (by decide) (by rw [List.length_map]; omega)
theorem first_polite {ps : List (Int × Int)} {hs ns : List Int} : firstI ps hs ns = none ↔ Polite ps hs ns := by
  unfold firstI Polite
  rw [List.find?_eq_none]
  constructor
  · intro h j hj
    have := h j (List.mem_range.mpr hj)
    simpa using this
  · intro h j hj
    have := h j (List.mem_range.mp hj)
    simpa using this
open Classical in
def spPairR {K : PySem.W.Frag} {mg : Str → Option Value} (T : D K mg) : Sp := fun vs H Q _ => ∃ (rv ov : V) (ps qs : List (Int × Int)) (hs os : List Int), vs = [rv, ov, .bl (decide (Stricter ps hs qs os))] ∧ Od H rv (rulesP ps hs) ∧ Od H ov (rulesP qs os) ∧ Lm ps ∧ Hrs hs ∧ Lm qs ∧ Hrs os ∧ Tb (tabs T) H ∧ ∀ H', UpL (tabs T) H H' → Q (.bl true) H'
section
variable {P : Program} {w : World} {K : PySem.W.Frag} {mg : Str → Option Value} {base : Heap}
theorem sc_pairr : FnScope ["_law_rule", "_law_other_here", "_law_due", "_law_told"] ["_law_rule", "_law_other_here", "_law_due"] (defScope s_l_pair_right) := ⟨rfl, rfl, rfl, by decide +kernel, rfl, by decide +kernel, by decide +kernel⟩
open Classical in
theorem ok_pairr (T : D K mg) (TB : Tabs base T) (hM : SysM K) : FnQ P w K mg base CX0 10 T.f_l_pair_right T.d_l_pair_right ["_law_rule", "_law_other_here", "_law_due"] (spPairR T) := by
  refine funQ T.U_l_pair_right sc_pairr (fun vs H Q E h => ?_) (fun cdv A outer s H vs Q E hgu hr h => ?_)
  · obtain ⟨rv, ov, ps, qs, hs, os, rfl, _⟩ := h
    rfl
  · obtain ⟨rv, ov, ps, qs, hs, os, rfl, hR, hO, lp, gh, lq, go, hT, k⟩ := h
    have nd := sc_pairr.nd
    have mz : 5000 ≤ sizeLine := by decide
    have hu64 : (A.deeper (envOfC "_law_pair_right" (defScope s_l_pair_right) s.heap.objs.size T.f_l_pair_right cdv)).units + 64 < cLine := hr.units
    refine ⟨_, pss_cons (ps_set (i := 3) nd rfl (.inl rfl) (pe_call (ok_looseG T TB) (hr.mono (by decide)) rfl T.g_loose_row T.U_loose_row.kp T.b_loose_row .nil pass0 (pa_cons (pv 0) (pa_cons (pv 1) pa_nil))))
      (pss_cons (ps_if (PW.pt (pw_or (pt_cmpR op_ne (pe_callB (call_reprD hgu hu64 hM) (by rfl) T.repr (by decide +kernel) (pa_cons (pe_call (ok_strictG T TB) hr rfl T.g_is_stricter T.U_is_stricter.kp T.b_is_stricter .nil pass0 (pa_cons (pv 0) (pa_cons (pv 1) pa_nil))) pa_nil)) (pe_callB (call_reprD hgu hu64 hM) (by rfl) T.repr (by decide +kernel) (pa_cons (pv 2) pa_nil)) (nomark _)) (pw_or1 (pt_cmpR op_ne (pe_cmpR op_isN (pv 3) pe_non (nomark _)) (pv 2) (nomark _)))))
        (pss_one (ps_ret pe_bl))
        (pss_nil))
      (pss_cons (ps_if (pt_cmpR op_isN (pv 3) pe_non (nomark _))
        (pss_one (ps_ret pe_bl))
        (pss_nil))
      (pss_cons (ps_if (PW.pt (pw_or (pt_not (pt_val (pe_call (ok_linef T) (hr.mono (by decide)) rfl T.g_l_line_formed T.U_l_line_formed.kp T.b_l_line_formed .nil pass0 (pa_cons (pv 3) pa_nil)))) (pw_or1 (pt_cmpR op_notN (pe_call (ok_lwat T) (hr.mono (by decide)) rfl T.g_l_wrong_at T.U_l_wrong_at.kp T.b_l_wrong_at .nil pass0 (pa_cons (pe_ix ix_tup (pv 0) pe_int (fun _ _ => rfl)) (pa_cons (pe_ix ix_tup (pv 0) pe_int (fun _ _ => rfl)) (pa_cons (pv 3) pa_nil)))) pe_non (nomark _)))))
        (pss_one (ps_ret pe_bl))
        (pss_nil))
      (pss_one (ps_ret (pe_cmpR op_notN (pe_call (ok_lwat T) (hr.mono (by decide)) rfl T.g_l_wrong_at T.U_l_wrong_at.kp T.b_l_wrong_at .nil pass0 (pa_cons (pe_ix ix_tup (pv 1) pe_int (fun _ _ => rfl)) (pa_cons (pe_ix ix_tup (pv 1) pe_int (fun _ _ => rfl)) (pa_cons (pv 3) pa_nil)))) pe_non (nomark _))))))), ?_⟩
    obtain ⟨f1, f2, f3⟩ := bool_facts (decide (Stricter ps hs qs os))
    refine ⟨_, rfl, _, rfl, rv, ov, ps, qs, hs, os, rfl, hR, hO, lp, gh, lq, go, hT, fun st H1 u1 => gn ?_, fun rs c H1 lo l7 u1 ec => gn ?_⟩
    · dsimp only [List.set]
      have hR1 := hR.stay (u1.stay hT)
      have hO1 := hO.stay (u1.stay hT)
      refine ⟨_, rfl, _, rfl, rv, ov, ps, qs, hs, os, rfl, hR1, hO1, lp, gh, lq, go, u1.1, fun H2 u2 => ?_⟩
      refine ⟨_, _, rfl, .bl _, f1, f2, f3, _, rfl, _, _, rfl, .bl _, f1, f2, f3, rfl, _, rfl, ?_⟩
      rw [decide_eq_true rfl]
      refine iteF ?_
      refine ⟨_, rfl, rfl, _, rfl, rfl, _, rfl, ?_⟩
      rw [decide_eq_true st, decide_eq_true rfl, decide_eq_true rfl]
      refine iteF (next_of ?_)
      refine ⟨_, rfl, rfl, _, rfl, iteT ?_⟩
      exact k _ (u1.trans u2)
    · dsimp only [List.set]
      have hR1 := hR.stay (u1.stay hT)
      have hO1 := hO.stay (u1.stay hT)
      refine ⟨_, rfl, _, rfl, rv, ov, ps, qs, hs, os, rfl, hR1, hO1, lp, gh, lq, go, u1.1, fun H2 u2 => ?_⟩
      have hR2 := hR1.stay (u2.stay u1.1)
      have hO2 := hO1.stay (u2.stay u1.1)
      have ec2 := (u2.stay u1.1) _ _ ec fun _ q => nomatch q
      refine ⟨_, _, rfl, .bl _, f1, f2, f3, _, rfl, _, _, rfl, .bl _, f1, f2, f3, rfl, _, rfl, ?_⟩
      rw [decide_eq_true rfl]
      refine iteF ?_
      refine ⟨_, rfl, rfl, _, rfl, rfl, _, rfl, ?_⟩
      have en : decide (V.ref c = V.non) = false := decide_eq_false fun z => nomatch z
      rw [decide_eq_false lo.no, en, decide_eq_true rfl]
      refine iteF (next_of ?_)
      refine ⟨_, rfl, rfl, _, rfl, ?_⟩
      rw [en]
      refine iteF (next_of ?_)
      obtain ⟨ra, av, hv, rfl, er, oa, oh⟩ := od_rules hR2
      obtain ⟨oa', bv, ov', rfl, eo, ob, oo⟩ := od_rules hO2
      have bd : ∀ {xs : List (Int × Int)}, Lm xs → ∀ p ∈ xs, 1 ≤ p.1 ∧ 1 ≤ p.2 ∧ p.2 ≤ 1000 := fun l p hp => by have := l.2 p hp; omega
      have oc : Od H2 (.ref c) (.tuple (rs.map PyData.int)) := .tup ec2 (ints_od rs)
      refine ⟨_, rfl, _, rs, rfl, ⟨c, rfl, ec2⟩, lo.1, _, rfl, iteF ?_⟩
      refine ⟨_, rfl, ra, _, 0, av, rfl, rfl, SqT.of er, rfl, _, rfl, ra, _, 1, hv, rfl, rfl, SqT.of er, rfl, _, rfl, av, hv, .ref c, ps, hs, rs, rfl, oa, bd lp, oh, gh.h0, oc, asc_srt lo.1, by omega, fun H3 s3 => ?_⟩
      rw [first_polite.mpr lo.2.1]
      refine ⟨rfl, _, rfl, iteF (next_of ?_)⟩
      refine ⟨_, rfl, oa', _, 0, bv, rfl, rfl, SqT.of (s3 _ _ eo), rfl, _, rfl, oa', _, 1, ov', rfl, rfl, SqT.of (s3 _ _ eo), rfl, _, rfl, bv, ov', .ref c, qs, os, rs, rfl, ob.same s3, bd lq, oo.same s3, go.h0, oc.same s3, asc_srt lo.1, by omega, fun H4 s4 => ?_⟩
      obtain ⟨i, ei⟩ : ∃ i, firstI qs os rs = some i := by
        cases q : firstI qs os rs with
        | none => exact absurd (first_polite.mp q) lo.2.2
        | some i => exact ⟨i, rfl⟩
      rw [ei]
      exact ⟨rfl, k _ ((u1.trans u2).trans (.same u2.1 (s3.trans s4)))⟩
end
end KP

set_option Elab.async false
set_option maxRecDepth 100000
set_option maxHeartbeats 4000000
set_option linter.all false
/-! Ours: limits and hours drawn below given bounds; what a turn may change. -/
namespace KP
open PySem PySem.Spec PyProof.Rows L2 Gr GxR
theorem but_ts {H H' : Hp} {p : Addr} (w : Well H p) (b : But H H' p) : TupStay H H' := fun a xs e => b a _ e fun z => by
  obtain ⟨_, _, _, ew⟩ := w
  rw [z, ew] at e
  cases e
theorem pr_tw (ps : List (Int × Int)) : ps.map prD = (ps.map inD).map tw := by
  rw [List.map_map]
  rfl
/-- what a turn may change -/
def Mv {K : PySem.W.Frag} {mg : Str → Option Value} (T : D K mg) (p : Addr) (H H' : Hp) : Prop := (∀ b o, H b = some o → b ≠ p → (∀ ps, o ≠ .tbl ps) → H' b = some o) ∧ Well H' p ∧ Tb (tabs T) H'
section
variable {K : PySem.W.Frag} {mg : Str → Option Value} {T : D K mg} {p : Addr} {H H1 H2 : Hp}
theorem well_off {x : Addr} {o : HO} (w : Well H p) (e : H x = some o) (n : ∀ xs, o ≠ .lst xs) : x ≠ p := fun z => by
  obtain ⟨_, _, _, ew⟩ := w
  rw [z, ew] at e
  exact n _ (Option.some.inj e).symm
theorem Mv.refl (w : Well H p) (h : Tb (tabs T) H) : Mv T p H H := ⟨fun _ _ e _ _ => e, w, h⟩
theorem Mv.trans (a : Mv T p H H1) (b : Mv T p H1 H2) : Mv T p H H2 := ⟨fun x o e n m => b.1 x o (a.1 x o e n m) n m, b.2⟩
theorem Mv.but (w : Well H p) (h : Tb (tabs T) H) (b : But H H1 p) (w1 : Well H1 p) : Mv T p H H1 :=
  ⟨fun x o e n _ => b x o e n, w1, fun q hq => let ⟨ps, e, t⟩ := h q hq; ⟨ps, b _ _ e (well_off w e fun _ z => nomatch z), t⟩⟩
theorem Mv.up (w : Well H p) (h : Tb (tabs T) H) (u : UpL (tabs T) H H1) : Mv T p H H1 := by
  refine ⟨fun x o e _ m => u.stay h x o e m, ?_, u.1⟩
  obtain ⟨a, b, c, e⟩ := w
  exact ⟨a, b, c, u.stay h _ _ e (fun _ q => nomatch q)⟩
theorem Mv.same (w : Well H p) (h : Tb (tabs T) H) (s : Same H H1) : Mv T p H H1 := Mv.up w h (.same h s)
theorem Mv.lst (m : Mv T p H H1) {a : Addr} {xs : List V} (e : H a = some (.lst xs)) (n : a ≠ p) : H1 a = some (.lst xs) := m.1 _ _ e n fun _ q => nomatch q
theorem Mv.ts (w : Well H p) (m : Mv T p H H1) : TupStay H H1 := fun a xs e => m.1 _ _ e (well_off w e fun _ q => nomatch q) fun _ q => nomatch q
end
def hrsR2 (tp : Int) : PyData → Prop := fun d => ∃ hs : List Int, d = .tuple (hs.map PyData.int) ∧ 0 < hs.length ∧ ((hs.length : Nat) : Int) ≤ tp ∧ (∀ h ∈ hs, 0 ≤ h ∧ h ≤ 1) ∧ ∃ j : Nat, ∃ h : j < hs.length, hs[j] = 1
def spSomeHrs2 : Sp := fun vs H Q _ => ∃ (p : Addr) (tp : Int), vs = [.ref p, .int tp] ∧ Well H p ∧ 0 < tp ∧ tp ≤ 12 ∧ Drawn H p (hrsR2 tp) Q
def limR2 (tp wd : Int) : PyData → Prop := fun d => ∃ ps : List (Int × Int), d = .tuple (ps.map prD) ∧ ps.length ≤ 4 ∧ ∀ p ∈ ps, 1 ≤ p.1 ∧ p.1 ≤ tp ∧ 1 ≤ p.2 ∧ p.2 ≤ wd
def spSomeLim2 : Sp := fun vs H Q _ => ∃ (p : Addr) (tp wd : Int), vs = [.ref p, .int tp, .int wd] ∧ Well H p ∧ 0 < tp ∧ tp ≤ 6 ∧ 0 < wd ∧ wd ≤ 12 ∧ Drawn H p (limR2 tp wd) Q
section
variable {P : Program} {w : World} {K : PySem.W.Frag} {mg : Str → Option Value} {base : Heap}
theorem ok_slim2 (T : D K mg) : FnOk P w K mg base CX0 3 T.f_l_some_limits T.d_l_some_limits ["_law_well_here", "_law_top", "_law_width"] spSomeLim2 := by
  refine T.U_l_some_limits.ok sc_slim (fun vs H Q E h => ?_) (fun cdv A outer s H vs Q E hr h => ?_)
  · obtain ⟨p, tp, wd, rfl, _⟩ := h
    rfl
  · obtain ⟨p, tp, wd, rfl, hp, t0, t1, w0, w1, k⟩ := h
    have nd := sc_slim.nd
    have mz : 5000 ≤ sizeLine := by decide
    refine ⟨_, pss_cons (ps_set (i := 3) nd rfl (.inl rfl) (pe_call (ok_l_one T) hr rfl T.g_l_one T.U_l_one.kp T.b_l_one .nil pass0 (pa_cons (pv 0) (pa_cons (pe_lst (pa_cons pe_int (pa_cons pe_int (pa_cons pe_int (pa_cons pe_int (pa_cons pe_int (pa_cons pe_int (pa_cons pe_int (pa_cons pe_int (pa_cons pe_int pa_nil)))))))))) pa_nil))))
      (pss_one (ps_ret (pe_callTy call_tuple_of (by rfl) T.tuple (by decide +kernel) (pa_cons (pe_lc (own := [("_law_turn", 4)]) (g := gName 4) (tt := tYes) rfl nd (pi_range1 rfl T.range (pa_cons (pv 3) pa_nil)) (blkOk_by (N := ["_law_well_here", "_law_top", "_law_width", "_law_number", "_law_turn"]) (sc := defScope s_l_some_limits) (by decide +kernel)) (fun _ _ _ _ _ => pg_name (i := 4) nd rfl (.inl rfl)) (fun _ _ _ _ _ => pts_nil) (fun _ _ _ _ _ => pe_tup (pa_cons (pe_op op_add pe_int (pe_call (ok_l_pick T) (hr.mono (by decide)) rfl T.g_l_pick T.U_l_pick.kp T.b_l_pick .nil pass0 (pa_cons (pv 0) (pa_cons (pv 1) pa_nil)))) (pa_cons (pe_op op_add pe_int (pe_call (ok_l_pick T) (hr.mono (by decide)) rfl T.g_l_pick T.U_l_pick.kp T.b_l_pick .nil pass0 (pa_cons (pv 0) (pa_cons (pv 2) pa_nil)))) pa_nil)))) pa_nil)))), ?_⟩
    refine ⟨_, rfl, by show 9 ≤ sizeLine; omega, fun q hq => ?_⟩
    have sq := same_upd (o := HO.lst [V.int 1, V.int 1, V.int 1, V.int 2, V.int 2, V.int 2, V.int 3, V.int 4, V.int 0]) hq
    refine ⟨p, q, _, rfl, hp.same sq, upd_same, well_ne hp hq, by decide, by decide, fun i v H1 hv w1' b1 => ?_⟩
    obtain ⟨n, rfl, n0, n4⟩ : ∃ n : Int, v = .int n ∧ 0 ≤ n ∧ n ≤ 4 := by
      have hm := List.mem_of_getElem? hv
      simp only [List.mem_cons, List.not_mem_nil, or_false] at hm
      rcases hm with rfl | rfl | rfl | rfl | rfl | rfl | rfl | rfl | rfl <;> exact ⟨_, rfl, by decide, by decide⟩
    have b01 : But H H1 p := (But.same' sq).trans b1
    refine gn ?_
    dsimp only
    refine ⟨_, rfl, n, rfl, by omega, by omega, fun D hD => lc_range (fun i Hx => But H1 Hx p ∧ Well Hx p ∧ ∃ (vs : List V) (ps : List (Int × Int)), Hx D = some (.lst vs) ∧ vs.length = i ∧ ps.length = i ∧ OdAll (hide Hx [p, D]) vs (ps.map prD) ∧ ∀ p ∈ ps, 1 ≤ p.1 ∧ p.1 ≤ tp ∧ 1 ≤ p.2 ∧ p.2 ≤ wd)
      ⟨But.same' (same_upd hD), w1'.same (same_upd hD), [], [], upd_same, rfl, rfl, .nil, fun _ h => nomatch h⟩ ?_ ?_⟩
    · rintro i Hx hi ⟨bx, wx, vs, ps, ev, lv, lp, ov, hps⟩
      have nDp := well_ne w1' hD
      refine ⟨rfl, ?_⟩
      unfold tYes
      dsimp only
      rw [if_pos rfl]
      refine ⟨_, rfl, _, rfl, p, tp, rfl, wx, t0, by omega, fun r H3 r0 r1 w3 b3 => ⟨_, _, rfl, rfl, _, rfl, _, rfl, p, wd, rfl, w3, w0, by omega, fun r' H4 r0' r1' w4 b4 => ⟨_, _, rfl, rfl, by show 2 ≤ sizeLine; omega, fun t ht => ?_⟩⟩⟩
      have b34 := b3.trans b4
      have e4 : H4 D = some (.lst vs) := b34 _ _ ev nDp
      have st := same_upd (o := HO.tup [V.int (1 + r), V.int (1 + r')]) ht
      have ntp := well_ne w4 ht
      have ntD : t ≠ D := fun z => by rw [z, e4] at ht; cases ht
      refine ⟨_, st _ _ e4, by omega, (bx.trans (b34.trans (But.same' st))).put hD, (w4.same st).put nDp, _, ps ++ [(1 + r, 1 + r')], upd_same, by rw [List.length_append, lv]; rfl, by rw [List.length_append, lp]; rfl, ?_, fun x hx => ?_⟩
      · rw [List.map_append]
        refine (ov.same (hide_put (b34.trans (But.same' st)))).app (.cons (.tup (hide_at2 ((upd_ne ntD).trans upd_same) ntp ntD) (.cons (.int _) (.cons (.int _) .nil))) .nil)
      · rcases List.mem_append.mp hx with z | z
        · exact hps x z
        · rw [List.mem_singleton.mp z]
          show 1 ≤ 1 + r ∧ 1 + r ≤ tp ∧ 1 ≤ 1 + r' ∧ 1 + r' ≤ wd
          omega
    · rintro Hx ⟨bx, wx, vs, ps, ev, lv, lp, ov, hps⟩
      refine ⟨D, vs, rfl, .inl ⟨SqL.of ev, fun R hR => ?_⟩⟩
      have sR := same_upd (o := HO.tup vs) hR
      exact k _ (.tuple (ps.map prD)) _ (b01.trans (bx.trans (But.same' sR))) (wx.same sR) (.tup (hide_at1 upd_same (well_ne wx hR)) ((ov.same hide_one).same (same_hide _ sR))) ⟨ps, rfl, by omega, hps⟩
theorem ok_shrs2 (T : D K mg) : FnOk P w K mg base CX0 3 T.f_l_some_hours T.d_l_some_hours ["_law_well_here", "_law_top"] spSomeHrs2 := by
  refine T.U_l_some_hours.ok sc_shrs (fun vs H Q E h => ?_) (fun cdv A outer s H vs Q E hr h => ?_)
  · obtain ⟨p, tp, rfl, _⟩ := h
    rfl
  · obtain ⟨p, tp, rfl, hp, t0, t1, k⟩ := h
    have nd := sc_shrs.nd
    have mz : 5000 ≤ sizeLine := by decide
    refine ⟨_, pss_cons (ps_setLc (i := 2) (own := [("_law_turn", 3)]) (g := gName 3) (tt := tYes) rfl nd rfl rfl (sw_true rfl rfl rfl (by decide +kernel)) (pi_range1 rfl T.range (pa_cons (pe_op op_add pe_int (pe_call (ok_l_pick T) (hr.mono (by decide)) rfl T.g_l_pick T.U_l_pick.kp T.b_l_pick .nil pass0 (pa_cons (pv 0) (pa_cons (pv 1) pa_nil)))) pa_nil)) (blkOk_by (N := ["_law_well_here", "_law_top", "_law_row", "_law_turn"]) (sc := defScope s_l_some_hours) (by decide +kernel)) (fun _ _ _ _ _ => pg_name (i := 3) nd rfl (.inl rfl)) (fun _ _ _ _ _ => pts_nil) (fun _ _ _ _ _ => pe_call (ok_l_one T) hr rfl T.g_l_one T.U_l_one.kp T.b_l_one .nil pass0 (pa_cons (pv 0) (pa_cons (pe_lst (pa_cons pe_int (pa_cons pe_int (pa_cons pe_int pa_nil)))) pa_nil))))
      (pss_cons (ps_asg pe_int (pg_sub (pv 2) (pe_call (ok_l_pick T) (hr.mono (by decide)) rfl T.g_l_pick T.U_l_pick.kp T.b_l_pick .nil pass0 (pa_cons (pv 0) (pa_cons (pe_callB call_len_seq (by rfl) T.len PySem.boot_len (pa_cons (pv 2) pa_nil)) pa_nil))) set_list))
      (pss_one (ps_ret (pe_callTy call_tuple_of (by rfl) T.tuple (by decide +kernel) (pa_cons (pv 2) pa_nil))))), ?_⟩
    refine ⟨_, rfl, _, rfl, p, tp, rfl, hp, t0, by omega, fun n H1 n0 n1 w1 b1 => ⟨_, _, rfl, rfl, ?_⟩⟩
    refine ⟨_, rfl, by omega, by omega, fun D hD => lc_range (fun i Hx => But H1 Hx p ∧ Well Hx p ∧ ∃ ns : List Int, Hx D = some (.lst (ns.map V.int)) ∧ ns.length = i ∧ ∀ h ∈ ns, 0 ≤ h ∧ h ≤ 1)
      ⟨But.same' (same_upd hD), w1.same (same_upd hD), [], upd_same, rfl, fun _ h => nomatch h⟩ ?_ ?_⟩
    · rintro i Hx hi ⟨bx, wx, ns, ev, lv, nv⟩
      have nDp := well_ne w1 hD
      refine ⟨rfl, ?_⟩
      unfold tYes
      dsimp only
      rw [if_pos rfl]
      refine ⟨_, rfl, by show 3 ≤ sizeLine; omega, fun q hq => ?_⟩
      have sq := same_upd (o := HO.lst [V.int 1, V.int 1, V.int 0]) hq
      refine ⟨p, q, _, rfl, wx.same sq, upd_same, well_ne wx hq, by decide, by decide, fun j v H3 hv w3 b3 => ?_⟩
      obtain ⟨m, rfl, hm01⟩ : ∃ m : Int, v = .int m ∧ 0 ≤ m ∧ m ≤ 1 := by
        have hm := List.mem_of_getElem? hv
        simp only [List.mem_cons, List.not_mem_nil, or_false] at hm
        rcases hm with rfl | rfl | rfl <;> exact ⟨_, rfl, by decide, by decide⟩
      have bq := (But.same' sq).trans b3
      exact ⟨_, bq _ _ ev nDp, by rw [List.length_map]; omega, (bx.trans bq).put hD, w3.put nDp, ns ++ [m], by rw [upd_same, List.map_append]; rfl, by rw [List.length_append, lv]; rfl, fun h hh => by
        rcases List.mem_append.mp hh with q | q
        · exact nv h q
        · rw [List.mem_singleton.mp q]; exact hm01⟩
    · rintro Hx ⟨bx, wx, ns, ev, lv, nv⟩
      have nDp := well_ne w1 hD
      refine gn ?_
      dsimp only
      refine ⟨_, rfl, _, rfl, _, rfl, D, _, rfl, .inl (SqL.of ev), p, _, rfl, wx, by rw [List.length_map]; omega, by rw [List.length_map]; omega, fun r H3 r0 r1 w3 b3 => ?_⟩
      rw [List.length_map] at r1
      have e3 := b3 _ _ ev nDp
      refine ⟨D, _, r, r.toNat, rfl, rfl, e3, ixN_in r0 (by rw [List.length_map]; omega), ?_⟩
      refine ⟨_, rfl, D, _, rfl, .inl ⟨SqL.of upd_same, fun R hR => ?_⟩⟩
      have e5 : (ns.map V.int).set r.toNat (.int 1) = (ns.set r.toNat 1).map V.int := by rw [List.map_set]
      rw [e5] at hR ⊢
      have wD : Well (upd H3 D (.lst ((ns.set r.toNat 1).map V.int))) p := w3.put nDp
      have sR := same_upd (o := HO.tup ((ns.set r.toNat 1).map V.int)) hR
      refine k _ (.tuple ((ns.set r.toNat 1).map PyData.int)) _ (b1.trans (((bx.trans b3).put hD).trans (But.same' sR))) (wD.same sR) (.tup (hide_at1 upd_same (well_ne wD hR)) (ints_od _)) ⟨_, rfl, by rw [List.length_set]; omega, by rw [List.length_set]; omega, fun h hh => ?_, r.toNat, by rw [List.length_set]; omega, List.getElem_set_self _⟩
      rcases List.mem_or_eq_of_mem_set hh with q | q
      · exact nv h q
      · rw [q]; exact ⟨by decide, by decide⟩
end
end KP

set_option Elab.async false
set_option maxRecDepth 100000
set_option maxHeartbeats 8000000
set_option linter.all false
/-! Ours: _law_other. -/
namespace KP
open PySem PySem.Spec PyProof.Rows L2 Gr GxR
def BdL (tp wd : Int) (ps : List (Int × Int)) : Prop := ps.length ≤ 4 ∧ ∀ p ∈ ps, 1 ≤ p.1 ∧ p.1 ≤ tp ∧ 1 ≤ p.2 ∧ p.2 ≤ wd
theorem BdL.lm {tp wd : Int} {ps : List (Int × Int)} (h : BdL tp wd ps) (t : tp ≤ 6) (w : wd ≤ 12) : Lm ps := ⟨h.1, fun p hp => by have := h.2 p hp; omega⟩
theorem tupD_rules (ps : List (Int × Int)) (hs : List Int) : tupD (rulesP ps hs) = true := tupD_tup fun d hd => by
  simp only [List.mem_cons, List.not_mem_nil, or_false] at hd
  rcases hd with rfl | rfl
  · exact tupD_lims ps
  · exact tupD_ints hs
theorem hrs_set {hs : List Int} (g : Hrs hs) {i : Nat} {v : Int} (hi : i < hs.length) (v0 : 0 ≤ v) (v1 : v ≤ 1) (h : hs.count 1 = 1 → v = 1) : Hrs (hs.set i v) := by
  refine ⟨by rw [List.length_set]; exact g.h0, by rw [List.length_set]; exact g.h1, fun x hx => ?_, ?_⟩
  · rcases List.mem_or_eq_of_mem_set hx with q | q
    · exact g.d x q
    · rw [q]; omega
  · by_cases z : v = 1
    · exact ⟨i, by rw [List.length_set]; exact hi, by rw [List.getElem_set_self]; exact z⟩
    · obtain ⟨j, hj, e⟩ := g.one
      have c0 : 0 < hs.count 1 := List.count_pos_iff.mpr (by rw [← e]; exact List.getElem_mem hj)
      have cs := List.count_set (a := v) (b := (1 : Int)) (l := hs) (i := i) hi
      have ne : (v == 1) = false := beq_eq_false_iff_ne.mpr z
      rw [ne] at cs
      have c2 : hs.count 1 ≠ 1 := fun q => z (h q)
      have le1 : (if (hs[i] == 1) = true then 1 else 0) ≤ 1 := by split <;> omega
      have : 0 < (hs.set i v).count 1 := by
        rw [cs, if_neg (c := false = true) (by decide)]
        omega
      obtain ⟨m, hm, em⟩ := List.getElem_of_mem (List.count_pos_iff.mp this)
      exact ⟨m, hm, em⟩
theorem one_hrs : Hrs [1] := ⟨by decide, by decide, fun h hm => by rw [List.mem_singleton.mp hm]; decide, ⟨0, by decide, rfl⟩⟩
def spOther2 : Sp := fun vs H Q _ => ∃ (p : Addr) (rv : V) (tp wd : Int) (ps : List (Int × Int)) (hs : List Int), vs = [.ref p, rv, .int tp, .int wd] ∧ Well H p ∧ Od H rv (rulesP ps hs) ∧ BdL tp wd ps ∧ Hrs hs ∧ 0 < tp ∧ tp ≤ 6 ∧ 0 < wd ∧ wd ≤ 12 ∧ ∀ v qs os H', But H H' p → Well H' p → Od H' v (rulesP qs os) → BdL tp wd qs → Hrs os → os.length ≤ hs.length → Q v H'
section
variable {P : Program} {w : World} {K : PySem.W.Frag} {mg : Str → Option Value} {base : Heap}
theorem sc_other2 : FnScope ["_law_well_here", "_law_rule", "_law_top", "_law_width", "_law_pairs", "_law_clock", "_law_way", "_law_start", "_law_wide", "_law_number", "_law_row"] ["_law_well_here", "_law_rule", "_law_top", "_law_width"] (defScope s_l_other) := ⟨rfl, rfl, rfl, by decide +kernel, rfl, by decide +kernel, by decide +kernel⟩
theorem ok_other2 (T : D K mg) : FnOk P w K mg base CX0 4 T.f_l_other T.d_l_other ["_law_well_here", "_law_rule", "_law_top", "_law_width"] spOther2 := by
  refine T.U_l_other.ok sc_other2 (fun vs H Q E h => ?_) (fun cdv A outer s H vs Q E hr h => ?_)
  · obtain ⟨p, rv, tp, wd, ps, hs, rfl, _⟩ := h
    rfl
  · obtain ⟨p, rv, tp, wd, ps, hs, rfl, hw, hR, lp, gh, t0, t6, w0, w12, k⟩ := h
    have nd := sc_other2.nd
    have mz : 5000 ≤ sizeLine := by decide
    refine ⟨_, pss_cons (ps_asg (pv 1) (pg_tup rfl (pgs_cons (pg_name (i := 4) nd rfl (.inl rfl)) (pgs_cons (pg_name (i := 5) nd rfl (.inl rfl)) pgs_nil))))
      (pss_cons (ps_par (i := 6) (j := 7) (by rfl) nd rfl rfl (by decide) rfl rfl (pa_cons (pe_call (ok_l_pick T) (hr.mono (by decide)) rfl T.g_l_pick T.U_l_pick.kp T.b_l_pick .nil pass0 (pa_cons (pv 0) (pa_cons pe_int pa_nil))) (pa_cons (pe_call (ok_l_pick T) (hr.mono (by decide)) rfl T.g_l_pick T.U_l_pick.kp T.b_l_pick .nil pass0 (pa_cons (pv 0) (pa_cons (pe_callB call_len_seq (by rfl) T.len PySem.boot_len (pa_cons (pv 5) pa_nil)) pa_nil))) pa_nil)) (by rfl))
      (pss_cons (ps_if (pt_cmpR op_lt (pv 6) pe_int (nomark _))
        (pss_cons (ps_set (i := 8) nd rfl (.inl rfl) (pe_op op_add pe_int (pe_call (ok_l_pick T) (hr.mono (by decide)) rfl T.g_l_pick T.U_l_pick.kp T.b_l_pick .nil pass0 (pa_cons (pv 0) (pa_cons (pv 3) pa_nil)))))
        (pss_cons (ps_set (i := 9) nd rfl (.inl rfl) (pe_op op_add (pe_call (ok_below7 T) hr rfl T.g_l_below T.U_l_below.kp T.b_l_below .nil pass0 (pa_cons (pv 4) (pa_cons (pv 5) (pa_cons (pv 7) (pa_cons (pv 8) pa_nil))))) (pe_call (ok_l_one T) (hr.mono (by decide)) rfl T.g_l_one T.U_l_one.kp T.b_l_one .nil pass0 (pa_cons (pv 0) (pa_cons (pe_lst (pa_cons pe_int (pa_cons pe_int (pa_cons (pe_un un_neg pe_int) (pa_cons pe_int pa_nil))))) pa_nil)))))
        (pss_one (ps_set (i := 4) nd rfl (.inl rfl) (pe_op op_catA (pe_slice sl_tupA (pv 4) po_none (po_some (pe_call (ok_l_pick T) (hr.mono (by decide)) rfl T.g_l_pick T.U_l_pick.kp T.b_l_pick .nil pass0 (pa_cons (pv 0) (pa_cons pe_int pa_nil))))) (pe_tup (pa_cons (pe_tup (pa_cons (pe_callB (call_max2 rfl) (by rfl) T.max boot_max (pa_cons pe_int (pa_cons (pe_callB (call_min2 rfl) (by rfl) T.min boot_min (pa_cons (pv 2) (pa_cons (pv 9) pa_nil))) pa_nil))) (pa_cons (pv 8) pa_nil))) pa_nil)))))))
        (pss_one (ps_if (pt_cmpR op_eq (pv 6) pe_int (nomark _))
          (pss_one (ps_set (i := 4) nd rfl (.inl rfl) (pe_call (ok_slim2 T) hr rfl T.g_l_some_limits T.U_l_some_limits.kp T.b_l_some_limits .nil pass0 (pa_cons (pv 0) (pa_cons (pv 2) (pa_cons (pv 3) pa_nil))))))
          (pss_nil))))
      (pss_cons (ps_if (pt_cmpR op_eq (pe_call (ok_l_pick T) (hr.mono (by decide)) rfl T.g_l_pick T.U_l_pick.kp T.b_l_pick .nil pass0 (pa_cons (pv 0) (pa_cons pe_int pa_nil))) pe_int (nomark _))
        (pss_cons (ps_set (i := 10) nd rfl (.inl rfl) (pe_callTy call_list_of (by rfl) T.list (by decide +kernel) (pa_cons (pv 5) pa_nil)))
        (pss_cons (ps_asg (pe_ifExp (pt_cmpR op_eq (pe_bm PySem.F.plainAttrs_list PySem.F.slot_list_count PySem.F.type_list_count mt_lcount (pv 10) (pa_cons pe_int pa_nil)) pe_int (nomark _)) pe_int (pe_call (ok_l_pick T) (hr.mono (by decide)) rfl T.g_l_pick T.U_l_pick.kp T.b_l_pick .nil pass0 (pa_cons (pv 0) (pa_cons pe_int pa_nil)))) (pg_sub (pv 10) (pv 7) set_list))
        (pss_one (ps_set (i := 5) nd rfl (.inl rfl) (pe_callTy call_tuple_of (by rfl) T.tuple (by decide +kernel) (pa_cons (pv 10) pa_nil))))))
        (pss_nil))
      (pss_one (ps_ret (pe_tup (pa_cons (pv 4) (pa_cons (pe_call (ok_l_one T) (hr.mono (by decide)) rfl T.g_l_one T.U_l_one.kp T.b_l_one .nil pass0 (pa_cons (pv 0) (pa_cons (pe_lst (pa_cons (pv 5) (pa_cons (pv 5) (pa_cons (pe_tup (pa_cons pe_int pa_nil)) pa_nil)))) pa_nil))) pa_nil)))))))), ?_⟩
    obtain ⟨ra, av, hv, rfl, er, oa, oh⟩ := od_rules hR
    have h0 := gh.h0
    have h12 := gh.h1
    obtain ⟨ha, rfl, eh⟩ := od_I oh
    refine ⟨_, rfl, ra, _, rfl, SqT.of er, rfl, _, _, rfl, _, _, rfl, rfl, ?_⟩
    dsimp only [List.set, L2.start]
    refine ⟨_, rfl, p, 4, rfl, hw, by decide, by decide, fun way H1 w0' w4 w1 b1 => ?_⟩
    have t1 := but_ts hw b1
    refine ⟨_, rfl, _, rfl, ha, _, rfl, .inr (SqT.of (t1 _ _ eh)), p, _, rfl, w1, by rw [List.length_map]; omega, by rw [List.length_map]; omega, fun st H2 st0 st1 w2 b2 => ⟨_, _, rfl, ?_⟩⟩
    rw [List.length_map] at st1
    dsimp only [List.set]
    have b12 := b1.trans b2
    have t2 := but_ts hw b12
    refine cut1 (fun σ' H' => ∃ v4 v8 v9 qs, σ' = [some (.ref p), some (.ref ra), some (.int tp), some (.int wd), some v4, some (.ref ha), some (.int way), some (.int st), v8, v9, none] ∧ But H H' p ∧ Well H' p ∧ Od H' v4 (limsP qs) ∧ BdL tp wd qs) (fun N hN => ?_) ?_
    · refine ⟨_, rfl, _, _, rfl, rfl, _, rfl, ite2 (fun h => ?_) (fun h => ?_)⟩
      · refine ⟨_, rfl, _, rfl, p, wd, rfl, w2, w0, by omega, fun r H3 r0 r1 w3 b3 => ⟨_, _, rfl, rfl, gn ?_⟩⟩
        dsimp only [List.set, List.map, List.replicate, List.length, List.append]
        have b13 := b12.trans b3
        have t3 := but_ts hw b13
        refine ⟨_, rfl, _, rfl, _, rfl, _, rfl, av, .ref ha, st, 1 + r, ps, hs, rfl, oa.ts t3 (tupD_lims _), lp.lm t6 w12, oh.ts t3 (tupD_ints _), h12, gh.one, fun ts H4 s4 sr lt => ?_⟩
        have w4' := w3.same s4
        refine ⟨_, rfl, 1, rfl, by show 4 ≤ sizeLine; omega, fun g hg => ?_⟩
        have sg := same_upd (o := HO.lst [V.int 0, V.int 0, V.int (-1), V.int 1]) hg
        refine ⟨p, g, _, rfl, w4'.same sg, upd_same, well_ne w4' hg, by decide, by decide, fun j y H5 hy w5 b5 => ?_⟩
        obtain ⟨m, rfl⟩ : ∃ m : Int, y = .int m := by
          have hm := List.mem_of_getElem? hy
          simp only [List.mem_cons, List.not_mem_nil, or_false] at hm
          rcases hm with rfl | rfl | rfl | rfl <;> exact ⟨_, rfl⟩
        have b15 := b13.trans ((But.same' (s4.trans sg)).trans b5)
        have t5 := but_ts hw b15
        refine ⟨_, _, rfl, rfl, gn ?_⟩
        dsimp only [List.set]
        generalize ((((ts.filter fun x => decide (x < st + (1 + r))).length : Nat) : Int) + m) = nb
        obtain ⟨la, ls, rfl, el, ol⟩ := od_tup oa
        have lls : ls.length = ps.length := by have := ol.len; rw [List.length_map, List.length_map] at this; exact this
        have l4 := lp.1
        refine ⟨_, rfl, ?_⟩
        dsimp only [tNoPart]
        refine ⟨_, rfl, p, 3, rfl, w5, by decide, by decide, fun n H6 n0 n3 w6 b6 => ⟨_, rfl, ?_⟩⟩
        have b16 := b15.trans b6
        have t6' := but_ts hw b16
        refine slice_tt n0 (t6' _ _ el) fun f H7 s7 ef => ?_
        have w7 := w6.same s7
        refine ⟨_, rfl, _, rfl, _, _, rfl, _, _, rfl, _, rfl, by show 2 ≤ sizeLine; omega, fun c hc => ⟨by show 1 ≤ sizeLine; omega, fun d hd => ?_⟩⟩
        obtain ⟨kx, hkx⟩ : ∃ kx : Int, kx = (if (if nb < tp then nb else tp) > 1 then (if nb < tp then nb else tp) else 1) := ⟨_, rfl⟩
        have k1 : 1 ≤ kx ∧ kx ≤ tp := by
          rw [hkx]
          by_cases z : nb < tp
          · rw [if_pos z]
            split <;> omega
          · rw [if_neg z]
            split <;> omega
        rw [← hkx] at hd ⊢
        have sc := same_upd (o := HO.tup [V.int kx, V.int (1 + r)]) hc
        have sd := same_upd (o := HO.tup [V.ref c]) hd
        refine cat_tt ((sc.trans sd) _ _ ef) upd_same (by rw [List.length_take]; show _ + 1 ≤ sizeLine; omega) fun q H8 s8 eq => gn (hN _ _ ⟨_, _, _, ps.take n.toNat ++ [(kx, 1 + r)], rfl, b16.trans (But.same' (s7.trans ((sc.trans sd).trans s8))), ((w7.same sc).same sd).same s8, ?_, ?_⟩)
        · show Od H8 (.ref q) (.tuple (((ps.take n.toNat ++ [(kx, 1 + r)]).map inD).map tw))
          rw [List.map_append, List.map_append, List.map_take, List.map_take]
          have t8 := but_ts hw (b16.trans (But.same' (s7.trans ((sc.trans sd).trans s8))))
          refine .tup eq (((ol.ts t8 (by have := tupD_lims ps; simpa [tupD] using this)).take n.toNat).app (.cons (.tup (s8 _ _ (sd _ _ upd_same)) (.cons (.int _) (.cons (.int _) .nil))) .nil))
        · refine ⟨by rw [List.length_append, List.length_take]; show _ + 1 ≤ 4; omega, fun x hx => ?_⟩
          rcases List.mem_append.mp hx with z | z
          · exact lp.2 x (List.mem_of_mem_take z)
          · rw [List.mem_singleton.mp z]
            refine ⟨k1.1, k1.2, ?_, ?_⟩
            · show (1 : Int) ≤ 1 + r; omega
            · show 1 + r ≤ wd; omega
      · refine ⟨_, rfl, rfl, _, rfl, ite2 (fun h => ?_) (fun h => next_of (hN _ _ ⟨_, _, _, ps, rfl, b12, w2, oa.ts t2 (tupD_lims _), lp⟩))⟩
        refine ⟨_, rfl, _, rfl, _, rfl, p, tp, wd, rfl, w2, t0, t6, w0, w12, fun v d H3 b3 w3 o3 hd => gn ?_⟩
        obtain ⟨qs, rfl, lq⟩ := hd
        rw [pr_tw] at o3
        exact hN _ _ ⟨_, _, _, qs, rfl, b12.trans b3, w3, o3.unhide, lq⟩
    rintro σ3 H3 ⟨v4, v8, v9, qs, rfl, b3, w3, o3, lq⟩
    have t3 := but_ts hw b3
    refine cut1 (fun σ' H' => ∃ v10 hv os, σ' = [some (.ref p), some (.ref ra), some (.int tp), some (.int wd), some v4, some hv, some (.int way), some (.int st), v8, v9, v10] ∧ But H H' p ∧ Well H' p ∧ Od H' v4 (limsP qs) ∧ Od H' hv (hrsP os) ∧ Hrs os ∧ os.length = hs.length) (fun N hN => ?_) ?_
    · refine ⟨_, rfl, p, 3, rfl, w3, by decide, by decide, fun m H4 m0 m3 w4' b4 => ⟨rfl, _, rfl, ite2 (fun h => ?_) (fun h => next_of (hN _ _ ⟨_, _, hs, rfl, b3.trans b4, w4', o3.ts (but_ts w3 b4) (tupD_lims _), oh.ts (but_ts hw (b3.trans b4)) (tupD_ints _), gh, rfl⟩))⟩⟩
      have b14 := b3.trans b4
      have t4 := but_ts hw b14
      have o4 := o3.ts (but_ts w3 b4) (tupD_lims _)
      refine ⟨_, rfl, ha, _, rfl, .inr (SqT.of (t4 _ _ eh)), fun L hL => gn ?_⟩
      dsimp only [List.set]
      have sL := same_upd (o := HO.lst (hs.map V.int)) hL
      have eL : upd H4 L (.lst (hs.map V.int)) L = some (.lst (hs.map V.int)) := upd_same
      have nLp : L ≠ p := well_ne w4' hL
      have wL := w4'.same sL
      have bL := b14.trans (But.same' sL)
      generalize hH5 : upd H4 L (.lst (hs.map V.int)) = H5 at *
      have done : ∀ (v : Int) (H6 : Hp), But H5 H6 p → Well H6 p → 0 ≤ v → v ≤ 1 → (hs.count 1 = 1 → v = 1) → ∀ R, (upd H6 L (.lst ((hs.map V.int).set st.toNat (.int v)))) R = none → N [some (.ref p), some (.ref ra), some (.int tp), some (.int wd), some v4, some (.ref R), some (.int way), some (.int st), v8, v9, some (.ref L)] (upd (upd H6 L (.lst ((hs.map V.int).set st.toNat (.int v)))) R (.tup ((hs.map V.int).set st.toNat (.int v)))) := fun v H6 b6 w6 v0 v1 hv R hR => by
        have e5 : (hs.map V.int).set st.toNat (.int v) = (hs.set st.toNat v).map V.int := by rw [List.map_set]
        rw [e5] at hR ⊢
        have hLn : H L = none := by
          cases z : H L with
          | none => rfl
          | some o => rw [b14 _ _ z (fun q => nLp q)] at hL; cases hL
        have sR := same_upd (o := HO.tup ((hs.set st.toNat v).map V.int)) hR
        have b7 : But H (upd (upd H6 L (.lst ((hs.set st.toNat v).map V.int))) R (.tup ((hs.set st.toNat v).map V.int))) p := ((bL.trans b6).put hLn).trans (But.same' sR)
        refine hN _ _ ⟨_, .ref R, hs.set st.toNat v, rfl, b7, (w6.put nLp).same sR, ?_, .tup upd_same (ints_od _), hrs_set gh (by omega) v0 v1 hv, by rw [List.length_set]⟩
        have e6 := b6 _ _ eL nLp
        exact (((o4.ts (same_ts sL) (tupD_lims _)).ts (but_ts wL b6) (tupD_lims _)).ts (ts_put e6) (tupD_lims _)).same sR
      have stl : st < (((hs.map V.int).length : Nat) : Int) := by rw [List.length_map]; exact st1
      refine ⟨_, rfl, .inl ⟨rfl, _, SqL.of eL⟩, L, hs, 1, rfl, rfl, SqL.of eL, rfl, _, rfl, ite2 (fun h1 => ?_) (fun h1 => ?_)⟩
      · refine ⟨_, rfl, _, rfl, L, _, st, st.toNat, rfl, rfl, eL, ixN_in st0 stl, _, rfl, L, _, rfl, .inl ⟨SqL.of upd_same, fun R hR => gn (done 1 _ (.refl _ _) wL (by decide) (by decide) (fun _ => rfl) R hR)⟩⟩
      · have h1 := of_decide_eq_false (Bool.eq_false_iff.mpr h1)
        refine ⟨_, rfl, p, 2, rfl, wL, by decide, by decide, fun x H6 x0 x2 w6 b6 => ?_⟩
        refine ⟨_, rfl, _, rfl, L, _, st, st.toNat, rfl, rfl, b6 _ _ eL nLp, ixN_in st0 stl, _, rfl, L, _, rfl, .inl ⟨SqL.of upd_same, fun R hR => gn (done x _ b6 w6 x0 (by omega) (fun q => absurd (by rw [q]; rfl) h1) R hR)⟩⟩
    clear t3
    rintro σ4 H4 ⟨v10, hv, os, rfl, b4, w4', o4, oh4, go, lo⟩
    refine ⟨_, rfl, _, rfl, _, rfl, _, rfl, by show 1 ≤ sizeLine; omega, fun c hc => ⟨by show 3 ≤ sizeLine; omega, fun g hg => ?_⟩⟩
    have sc := same_upd (o := HO.tup [V.int 1]) hc
    have sg := same_upd (o := HO.lst [hv, hv, V.ref c]) hg
    have ec : upd H4 c (HO.tup [V.int 1]) c = some (.tup [V.int 1]) := upd_same
    have w5 := (w4'.same sc).same sg
    refine ⟨p, g, _, rfl, w5, upd_same, well_ne (w4'.same sc) hg, Nat.succ_pos _, (by show 3 ≤ 1000; decide), fun j y H5 hy w6 b5 => ?_⟩
    have ts5 := but_ts w5 b5
    have s45 := sc.trans sg
    have o5 := (o4.same s45).ts ts5 (tupD_lims _)
    have b6 := b4.trans ((But.same' s45).trans b5)
    have fin : ∀ os', Od H5 y (hrsP os') → Hrs os' → os'.length ≤ hs.length → (by_ : True) → (fun xs H1 => xs.length ≤ sizeLine ∧ ∀ (p : Addr), H1 p = none → Q (V.ref p) (upd H1 p (HO.tup xs))) [v4, y] H5 := fun os' oy gy ly _ => ⟨by show 2 ≤ sizeLine; omega, fun r hr => by
      have sr := same_upd (o := HO.tup [v4, y]) hr
      exact k _ qs os' _ (b6.trans (But.same' sr)) (w6.same sr) (.tup upd_same (.cons (o5.same sr) (.cons (oy.same sr) .nil))) lq gy ly⟩
    have hm := List.mem_of_getElem? hy
    simp only [List.mem_cons, List.not_mem_nil, or_false] at hm
    rcases hm with e | e | e
    · exact fin os (by rw [e]; exact (oh4.same s45).ts ts5 (tupD_ints _)) go (Nat.le_of_eq lo) trivial
    · exact fin os (by rw [e]; exact (oh4.same s45).ts ts5 (tupD_ints _)) go (Nat.le_of_eq lo) trivial
    · refine fin [1] (by rw [e]; exact .tup (ts5 _ _ (sg _ _ ec)) (.cons (.int 1) .nil)) one_hrs (by show 1 ≤ hs.length; omega) trivial
end
end KP

set_option Elab.async false
set_option maxRecDepth 100000
set_option maxHeartbeats 8000000
set_option linter.all false
/-! Ours: _law_by_walk, what stands. -/
namespace KP
open PySem PySem.Spec PyProof.Rows L2 Gr GxR
theorem paired_snoc {α β : Type} {F : α → β → Prop} : ∀ {xs : List α} {ys : List β} {x : α} {y : β}, Paired F xs ys → F x y → Paired F (xs ++ [x]) (ys ++ [y])
  | _, _, _, _, .nil, h => .cons h .nil
  | _, _, _, _, .cons r t, h => .cons r (paired_snoc t h)
structure WS (P : Program) (w : World) (H : Hp) (L d : Addr) (bs : List Addr) (ks : List WK) (H' : Hp) : Prop where
  s : Same H H'
  e : H' L = some (.lst (bs.map V.ref))
  k : Paired (fun b k => KeyAt H' b k) bs ks
  nd : ND P w H' d ks
theorem WS.len {P : Program} {w : World} {H H' : Hp} {L d : Addr} {bs : List Addr} {ks : List WK} (h : WS P w H L d bs ks H') : bs.length = ks.length := Paired.length h.k
theorem WS.same {P : Program} {w : World} {H H' H'' : Hp} {L d : Addr} {bs : List Addr} {ks : List WK} (h : WS P w H L d bs ks H') (s : Same H' H'') : WS P w H L d bs ks H'' := by
  refine ⟨h.s.trans s, s _ _ h.e, Paired.mapP h.k fun b k q => q.keep fun c ys e => s _ _ e, ?_⟩
  obtain ⟨xs, e, _⟩ := id h.nd
  exact h.nd.keep (by rw [e]; exact s _ _ e) fun c ys q => s _ _ q
theorem WS.add {P : Program} {w : World} {H H' H4 : Hp} {L d b : Addr} {bs : List Addr} {ks : List WK} {k : WK} (h : WS P w H L d bs ks H') (hL : H L = none) (hd : H d = none) (hb : KeyAt H' b k) (n : ND P w H4 d (ks ++ [k])) (s : ∀ c, c ≠ d → H4 c = H' c) : H4 L = some (.lst (bs.map V.ref)) ∧ WS P w H L d (bs ++ [b]) (ks ++ [k]) (upd H4 L (.lst ((bs.map V.ref) ++ [.ref b]))) ∧ ∀ c ys, H' c = some (.tup ys) → upd H4 L (.lst ((bs.map V.ref) ++ [.ref b])) c = some (.tup ys) := by
  have nLd : L ≠ d := fun z => by
    obtain ⟨xs, e, _⟩ := id h.nd
    rw [← z, h.e] at e
    cases e
  have eL : H4 L = some (.lst (bs.map V.ref)) := by rw [s L nLd]; exact h.e
  have t4 : ∀ c ys, H' c = some (.tup ys) → H4 c = some (.tup ys) := fun c ys e => by rw [s c (h.nd.notup c ys e)]; exact e
  have t5 : ∀ {o : HO} c ys, H4 c = some (.tup ys) → upd H4 L o c = some (.tup ys) := fun c ys e => (upd_ne fun z => by rw [z, eL] at e; cases e).trans e
  refine ⟨eL, ⟨fun c o e => ?_, by rw [upd_same, List.map_append]; rfl, ?_, ?_⟩, fun c ys e => t5 c ys (t4 c ys e)⟩
  · have n1 : c ≠ L := fun z => by
      rw [z, hL] at e
      cases e
    have n2 : c ≠ d := fun z => by
      rw [z, hd] at e
      cases e
    rw [upd_ne n1, s c n2]
    exact h.s c o e
  · exact paired_snoc (Paired.mapP h.k fun b k q => (q.keep t4).keep t5) ((hb.keep t4).keep t5)
  · exact n.keep (upd_ne (Ne.symm nLd)) t5
theorem rep_zero {K : PySem.W.Frag} {H : Hp} {c : Addr} {n : Nat} {Q : VK} (hc : H c = some (.tup [.int 0])) (hn : n ≤ 3) (k : ∀ r H', Same H H' → H' r = some (.tup ((List.replicate n (0 : Int)).map V.int)) → Q (.ref r) H') : rRepA K (.ref c) (.int (n : Nat)) H Q := by
  refine ⟨c, _, _, rfl, rfl, SqT.of hc, List.cons_ne_nil _ _, by omega, by omega, (by show 1 ≤ 1000; decide), fun e => ?_, fun e p hp => ?_⟩
  · have e : n = 1 := by omega
    subst e
    exact k c H (.refl H) hc
  · refine k p _ (same_upd hp) ?_
    rw [upd_same, Int.toNat_natCast, List.map_replicate]
    congr 2
    exact List.flatten_replicate_singleton
def spByWalk : Sp := fun vs H Q _ => ∃ (rv ov : V) (ps qs : List (Int × Int)) (hs os : List Int), vs = [rv, ov] ∧ Od H rv (rulesP ps hs) ∧ Od H ov (rulesP qs os) ∧ BdL 3 4 ps ∧ BdL 3 4 qs ∧ Hrs hs ∧ Hrs os ∧ hs.length ≤ 3 ∧ os.length ≤ 3 ∧ (Stricter ps hs qs os → ∀ H', Same H H' → Q (.bl true) H') ∧ (¬ Stricter ps hs qs os → ∀ H', Same H H' → Q (.bl false) H')
/-- what the walk has done -/
def Done (ps : List (Int × Int)) (hs : List Int) (qs : List (Int × Int)) (os : List Int) (M span top i : Nat) (ks : List WK) : Prop := ∀ (j : Nat) (k : WK), j < i → ks[j]? = some k → ∀ c, c ≤ top → LetP ps hs k c → LetP qs os k c ∧ stepW M span k c ∈ ks
theorem Done.more {ps : List (Int × Int)} {hs : List Int} {qs : List (Int × Int)} {os : List Int} {M span top i : Nat} {ks : List WK} (h : Done ps hs qs os M span top i ks) (hi : i ≤ ks.length) (k : WK) : Done ps hs qs os M span top i (ks ++ [k]) := fun j m hj e c hc l => by
  rw [List.getElem?_append_left (by omega)] at e
  obtain ⟨a, b⟩ := h j m hj e c hc l
  exact ⟨a, List.mem_append_left _ b⟩
theorem Done.closed {ps : List (Int × Int)} {hs : List Int} {qs : List (Int × Int)} {os : List Int} {M span top i : Nat} {ks : List WK} (h : Done ps hs qs os M span top i ks) (hi : ks.length ≤ i) (h0 : ((0 : Int), List.replicate span (0 : Int)) ∈ ks) : Closed ps hs qs os M span top ks := ⟨h0, fun k hk c hc l => by
  obtain ⟨j, hj, rfl⟩ := List.getElem_of_mem hk
  exact h j _ (by omega) (List.getElem?_eq_getElem hj) c hc l⟩
/-- the keys in the line -/
structure KsOk (ps : List (Int × Int)) (hs : List Int) (M span top : Nat) (ks : List WK) : Prop where
  st : ((0 : Int), List.replicate span (0 : Int)) ∈ ks
  snd : ∀ k ∈ ks, Snd ps hs M span k
  bd : ∀ k ∈ ks, KeyB M span top k
theorem KsOk.add {ps : List (Int × Int)} {hs : List Int} {M span top c : Nat} {ks : List WK} {k : WK} (h : KsOk ps hs M span top ks) (hk : k ∈ ks) (h0 : 0 < M) (hM : hs.length ∣ M) (hp : SpanOk ps span) (l : LetP ps hs k c) (hc : c ≤ top) : KsOk ps hs M span top (ks ++ [stepW M span k c]) :=
  ⟨List.mem_append_left _ h.st, fun m hm => (List.mem_append.mp hm).elim (h.snd m) fun e => by rw [List.mem_singleton.mp e]; exact (h.snd k hk).step hM hp l, fun m hm => (List.mem_append.mp hm).elim (h.bd m) fun e => by rw [List.mem_singleton.mp e]; exact (h.bd k hk).step h0 hc⟩
theorem KsOk.first {ps : List (Int × Int)} {hs : List Int} {M span top : Nat} (h0 : 0 < M) : KsOk ps hs M span top [((0 : Int), List.replicate span (0 : Int))] := by
  refine ⟨List.mem_cons_self, fun k hk => ?_, fun k hk => ?_⟩
  · rw [List.mem_singleton.mp hk]
    refine ⟨0, [], ⟨srt_nil, (fun x hx => by cases hx), (fun x hx => by cases hx), (fun x hx => by cases hx), fun i hi => absurd hi (Nat.not_lt_zero i)⟩, ?_⟩
    unfold stW keyS
    refine Prod.ext (by show (0 : Int) = ((0 % M : Nat) : Int); rw [Nat.zero_mod]; rfl) ?_
    show _ = (List.range span).map (fun (j : Nat) => (0 : Int))
    rw [List.map_const', List.length_range]
  · rw [List.mem_singleton.mp hk]
    refine ⟨⟨Int.le_refl _, by show (0 : Int) < (M : Int); omega⟩, List.length_replicate, fun x hx => ?_⟩
    rw [List.eq_of_mem_replicate hx]
    omega
theorem KsOk.few {ps : List (Int × Int)} {hs : List Int} {M span top : Nat} {ks : List WK} (h : KsOk ps hs M span top ks) (nd : ks.Nodup) (m9 : M ≤ 9) (s3 : span ≤ 3) (t4 : top ≤ 4) : ks.length ≤ 1125 := by
  have := keys_few nd h.bd
  have a : (top + 1) ^ span ≤ 5 ^ 3 := Nat.le_trans (Nat.pow_le_pow_left (by omega) _) (Nat.pow_le_pow_right (by decide) s3)
  have b : (top + 1) ^ span * M ≤ 5 ^ 3 * 9 := Nat.mul_le_mul a m9
  have c : (5 : Nat) ^ 3 * 9 = 1125 := by decide
  omega
end KP

set_option Elab.async false
set_option maxRecDepth 100000
set_option maxHeartbeats 8000000
set_option linter.all false
/-! Ours: _law_by_walk. -/
namespace KP
open PySem PySem.Spec PyProof.Rows L2 Gr GxR
theorem op_catL {X : Cx} : OpR X (binaryOp .Add) rCat := op_cat
section
variable {P : Program} {w : World} {K : PySem.W.Frag} {mg : Str → Option Value} {base : Heap}
abbrev NW : List Str := ["_law_rule", "_law_other_here", "_law_span", "_law_size", "_law_top", "_law_line", "_law_seen", "_law_at", "_law_clocks", "_law_past", "_law_count", "_law_new", "_law_pair"]
theorem sc_walk : FnScope ["_law_rule", "_law_other_here", "_law_span", "_law_size", "_law_top", "_law_line", "_law_seen", "_law_at", "_law_clocks", "_law_past", "_law_count", "_law_new", "_law_pair"] ["_law_rule", "_law_other_here"] (defScope s_l_by_walk) := ⟨rfl, rfl, rfl, by decide +kernel, rfl, by decide +kernel, by decide +kernel⟩
open Classical in
theorem ok_walk (T : D K mg) : FnOk P w K mg base CX0 3 T.f_l_by_walk T.d_l_by_walk ["_law_rule", "_law_other_here"] spByWalk := by
  refine T.U_l_by_walk.ok sc_walk (fun vs H Q E h => ?_) (fun cdv A outer s H vs Q E hr h => ?_)
  · obtain ⟨rv, ov, ps, qs, hs, os, rfl, _⟩ := h
    rfl
  · obtain ⟨rv, ov, ps, qs, hs, os, rfl, hR, hO, lp, lq, gh, go, h3, o3, k1, k2⟩ := h
    have nd := sc_walk.nd
    have mz : 5000 ≤ sizeLine := by decide
    have hu : (A.deeper (envOfC "_law_by_walk" (defScope s_l_by_walk) s.heap.objs.size T.f_l_by_walk cdv)).units + 9 < cLine := by have := hr.un; omega
    refine ⟨_, pss_cons (ps_set (i := 2) nd rfl (.inl rfl) (pe_op op_sub (pe_callB (cr_max rfl) (by rfl) T.max (by decide +kernel) (pa_cons (pe_op op_catL (pe_lc (own := [("_law_pair", 12)]) (g := gName 12) (tt := tYes) rfl nd (pi_tup (pe_op op_catA (pe_ix ix_tup (pv 0) pe_int (fun _ _ => rfl)) (pe_ix ix_tup (pv 1) pe_int (fun _ _ => rfl)))) (blkOk_by (N := NW) (sc := defScope s_l_by_walk) (by decide +kernel)) (fun _ _ _ _ _ => pg_name (i := 12) nd rfl (.inl rfl)) (fun _ _ _ _ _ => pts_nil) (fun _ _ _ _ _ => pe_ix ix_tupB (pv 12) pe_int (fun _ _ => rfl))) (pe_lst (pa_cons pe_int pa_nil))) pa_nil)) pe_int))
      (pss_cons (ps_par (i := 3) (j := 4) (by rfl) nd rfl rfl (by decide) rfl rfl (pa_cons (pe_op op_mul (pe_callB call_len_seq (by rfl) T.len PySem.boot_len (pa_cons (pe_ix ix_tup (pv 0) pe_int (fun _ _ => rfl)) pa_nil)) (pe_callB call_len_seq (by rfl) T.len PySem.boot_len (pa_cons (pe_ix ix_tup (pv 1) pe_int (fun _ _ => rfl)) pa_nil))) (pa_cons (pe_op op_add (pe_callB (cr_max rfl) (by rfl) T.max (by decide +kernel) (pa_cons (pe_op op_catL (pe_lc (own := [("_law_pair", 12)]) (g := gName 12) (tt := tYes) rfl nd (pi_tup (pe_ix ix_tup (pv 1) pe_int (fun _ _ => rfl))) (blkOk_by (N := NW) (sc := defScope s_l_by_walk) (by decide +kernel)) (fun _ _ _ _ _ => pg_name (i := 12) nd rfl (.inl rfl)) (fun _ _ _ _ _ => pts_nil) (fun _ _ _ _ _ => pe_ix ix_tupB (pv 12) pe_int (fun _ _ => rfl))) (pe_lst (pa_cons pe_int pa_nil))) pa_nil)) pe_int) pa_nil)) (by rfl))
      (pss_cons (ps_set (i := 5) nd rfl (.inl rfl) (pe_lst (pa_cons (pe_tup (pa_cons pe_int (pa_cons (pe_op op_repA (pe_tup (pa_cons pe_int pa_nil)) (pv 2)) pa_nil))) pa_nil)))
      (pss_cons (ps_set (i := 6) nd rfl (.inl rfl) (pe_dispN hu (pe_ix ix_list (pv 5) pe_int (fun _ _ => rfl)) pe_bl))
      (pss_cons (ps_for PassesOwn.never rfl (pi_range1 rfl T.range (pa_cons pe_int pa_nil)) (pg_name (i := 7) nd rfl (.inl rfl))
        (pss_cons (ps_if (pt_cmpR op_ge (pv 7) (pe_callB call_len_seq (by rfl) T.len PySem.boot_len (pa_cons (pv 5) pa_nil)) (nomark _))
          (pss_one (ps_ret pe_bl))
          (pss_nil))
        (pss_cons (ps_asg (pe_ix ix_list (pv 5) (pv 7) (fun _ _ => rfl)) (pg_tup rfl (pgs_cons (pg_name (i := 8) nd rfl (.inl rfl)) (pgs_cons (pg_name (i := 9) nd rfl (.inl rfl)) pgs_nil))))
        (pss_one (ps_for PassesOwn.never rfl (pi_range1 rfl T.range (pa_cons (pe_op op_add (pv 4) pe_int) pa_nil)) (pg_name (i := 10) nd rfl (.inl rfl))
          (pss_cons (ps_if (pt_not (pt_val (pe_call (ok_lets T) hr rfl T.g_l_lets T.U_l_lets.kp T.b_l_lets .nil pass0 (pa_cons (pv 0) (pa_cons (pv 8) (pa_cons (pv 9) (pa_cons (pv 10) pa_nil)))))))
            (pss_one (ps_break))
            (pss_nil))
          (pss_cons (ps_if (pt_not (pt_val (pe_call (ok_lets T) hr rfl T.g_l_lets T.U_l_lets.kp T.b_l_lets .nil pass0 (pa_cons (pv 1) (pa_cons (pv 8) (pa_cons (pv 9) (pa_cons (pv 10) pa_nil)))))))
            (pss_one (ps_ret pe_bl))
            (pss_nil))
          (pss_cons (ps_set (i := 11) nd rfl (.inl rfl) (pe_tup (pa_cons (pe_op op_mod (pe_callTy call_int1 (by rfl) T.int PyProof.Rows.boot_int (pa_cons (pe_op op_add (pv 8) pe_int) pa_nil)) (pv 3)) (pa_cons (pe_slice sl_tupA (pe_op op_catA (pe_tup (pa_cons (pv 10) pa_nil)) (pv 9)) po_none (po_some (pv 2))) pa_nil))))
          (pss_one (ps_if (pt_cmpR (op_notInN hu) (pv 11) (pv 6) rfl)
            (pss_cons (ps_putN hu (pv 6) (pv 11) pe_bl rfl)
            (pss_one (ps_expr (pe_bm PySem.F.plainAttrs_list PySem.F.slot_list_append PySem.F.type_list_append mt_append (pv 5) (pa_cons (pv 11) pa_nil)))))
            (pss_nil)))))))))))
      (pss_one (ps_ret pe_bl)))))), ?_⟩
    obtain ⟨ra, av, hv, rfl, er, oa, oh⟩ := od_rules hR
    obtain ⟨oa', bv, ov', rfl, eo, ob, oo⟩ := od_rules hO
    obtain ⟨ha, rfl, eh⟩ := od_I oh
    obtain ⟨ga, rfl, eg⟩ := od_I oo
    obtain ⟨la, ls, rfl, el, ol⟩ := od_tup oa
    obtain ⟨lb, ms, rfl, em, om⟩ := od_tup ob
    have lls : ls.length = ps.length := by rw [ol.len, List.length_map, List.length_map]
    have lms : ms.length = qs.length := by rw [om.len, List.length_map, List.length_map]
    have l4 := lp.1
    have q4 := lq.1
    have h0 := gh.h0
    have o0 := go.h0
    refine cut1 (fun σ' H' => ∃ span : Nat, span ≤ 3 ∧ SpanOk ps span ∧ SpanOk qs span ∧ σ' = [some (.ref ra), some (.ref oa'), some (.int (span : Nat)), none, none, none, none, none, none, none, none, none, none] ∧ Same H H') (fun N hN => ?_) ?_
    · refine ⟨_, rfl, ra, _, 0, .ref la, rfl, rfl, SqT.of er, rfl, _, rfl, oa', _, 0, .ref lb, rfl, rfl, SqT.of eo, rfl, cat_tt el em (by omega) fun c H1 s1 ec => ⟨c, rfl, ⟨_, SqT.of ec⟩, fun D hD => ?_⟩⟩
      have oc : OdAll H1 (ls ++ ms) (((ps ++ qs).map inD).map tw) := by
        rw [List.map_append, List.map_append]
        exact (ol.same s1).app (om.same s1)
      refine lc_tup (K := K) (a := c) (xs := ls ++ ms) (fun j Hx => Same H1 Hx ∧ Hx D = some (.lst ((((ps ++ qs).take j).map fun x : Int × Int => x.2).map V.int))) ⟨same_upd hD, upd_same⟩ (fun j Hx _ q => SqT.of (q.1 _ _ ec)) ?_ ?_
      · rintro j x Hx hx ⟨sx, ex⟩
        obtain ⟨q, b, hq, rfl, eb⟩ := pair_at oc hx
        refine ⟨rfl, ?_⟩
        unfold tYes
        dsimp only
        rw [if_pos rfl]
        have et : (ps ++ qs).take (j + 1) = (ps ++ qs).take j ++ [q] := by rw [List.take_add_one, hq]; rfl
        refine ⟨_, rfl, b, _, _, _, rfl, rfl, SqT.of (sx _ _ eb), rfl, _, ex, ?_, same_into hD sx, ?_⟩
        · rw [List.length_map, List.length_map, List.length_take, List.length_append]
          omega
        · rw [upd_same, et, List.map_append, List.map_append]
          rfl
      · rintro Hx ⟨sx, ex⟩
        rw [List.take_of_length_le (by rw [List.length_append, List.length_append]; omega)] at ex
        refine ⟨by show 1 ≤ sizeLine; omega, fun e1 he1 => ?_⟩
        have se := same_upd (o := HO.lst [V.int 1]) he1
        have lns : (((ps ++ qs).map fun x : Int × Int => x.2).map V.int).length ≤ 8 := by
          rw [List.length_map, List.length_map, List.length_append]
          omega
        refine ⟨D, e1, _, _, rfl, rfl, se _ _ ex, upd_same, by show _ + 1 ≤ sizeLine; omega, fun r hr => ?_⟩
        have sr := same_upd (o := HO.lst ((((ps ++ qs).map fun x : Int × Int => x.2).map V.int) ++ [V.int 1])) hr
        have er' : upd (upd Hx e1 (.lst [V.int 1])) r (.lst ((((ps ++ qs).map fun x : Int × Int => x.2).map V.int) ++ [V.int 1])) r = some (.lst ((((ps ++ qs).map fun x : Int × Int => x.2) ++ [1]).map V.int)) := by
          rw [upd_same, List.map_append (f := V.int)]
          rfl
        refine ⟨r, _, rfl, SqL.of er', by rw [List.length_append]; exact Nat.succ_pos _, fun m hm hmx => ⟨_, _, rfl, rfl, gn ?_⟩⟩
        have m1 := hmx 1 (List.mem_append_right _ List.mem_cons_self)
        have m4 : m ≤ 4 := by
          rcases List.mem_append.mp hm with z | z
          · obtain ⟨q, hq, rfl⟩ := List.mem_map.mp z
            rcases List.mem_append.mp hq with y | y
            · exact (lp.2 q y).2.2.2
            · exact (lq.2 q y).2.2.2
          · rw [List.mem_singleton.mp z]; decide
        have mm : ∀ q ∈ ps ++ qs, q.2 ≤ m := fun q hq => hmx _ (List.mem_append_left _ (List.mem_map.mpr ⟨q, hq, rfl⟩))
        refine hN _ _ ⟨(m - 1).toNat, by omega, fun q hq => ?_, fun q hq => ?_, ?_, ((s1.trans sx).trans se).trans sr⟩
        · have := lp.2 q hq
          have := mm q (List.mem_append_left _ hq)
          omega
        · have := lq.2 q hq
          have := mm q (List.mem_append_right _ hq)
          omega
        · rw [show (((m - 1).toNat : Nat) : Int) = m - 1 by omega]
          rfl
    rintro σ1 H1 ⟨span, s3, sp, sq, rfl, s1⟩
    have eN : ((hs.length : Nat) : Int) * ((os.length : Nat) : Int) = ((hs.length * os.length : Nat) : Int) := (Int.natCast_mul _ _).symm
    refine cut1 (fun σ' H' => ∃ top : Nat, 1 ≤ top ∧ top ≤ 4 ∧ (∀ q ∈ qs, q.1 + 1 ≤ (top : Int)) ∧ σ' = [some (.ref ra), some (.ref oa'), some (.int (span : Nat)), some (.int ((hs.length * os.length : Nat) : Int)), some (.int (top : Nat)), none, none, none, none, none, none, none, none] ∧ Same H1 H') (fun N hN => ?_) ?_
    · refine ⟨_, rfl, ra, _, 1, .ref ha, rfl, rfl, SqT.of (s1 _ _ er), rfl, ha, _, rfl, .inr (SqT.of (s1 _ _ eh)), _, rfl, oa', _, 1, .ref ga, rfl, rfl, SqT.of (s1 _ _ eo), rfl, ga, _, rfl, .inr (SqT.of (s1 _ _ eg)), _, _, rfl, rfl, .inl ⟨by rw [List.length_map]; omega, by rw [List.length_map]; omega⟩, ?_⟩
      rw [List.length_map, List.length_map]
      refine ⟨_, rfl, oa', _, 0, .ref lb, rfl, rfl, SqT.of (s1 _ _ eo), rfl, lb, rfl, ⟨_, SqT.of (s1 _ _ em)⟩, fun D hD => ?_⟩
      refine lc_tup (K := K) (a := lb) (xs := ms) (fun j Hx => Same H1 Hx ∧ Hx D = some (.lst (((qs.take j).map fun x : Int × Int => x.1).map V.int))) ⟨same_upd hD, upd_same⟩ (fun j Hx _ q => SqT.of (q.1 _ _ (s1 _ _ em))) ?_ ?_
      · rintro j x Hx hx ⟨sx, ex⟩
        obtain ⟨q, b, hq, rfl, eb⟩ := pair_at om hx
        refine ⟨rfl, ?_⟩
        unfold tYes
        dsimp only
        rw [if_pos rfl]
        have et : qs.take (j + 1) = qs.take j ++ [q] := by rw [List.take_add_one, hq]; rfl
        refine ⟨_, rfl, b, _, _, _, rfl, rfl, SqT.of (sx _ _ (s1 _ _ eb)), rfl, _, ex, ?_, same_into hD sx, ?_⟩
        · rw [List.length_map, List.length_map, List.length_take]
          omega
        · rw [upd_same, et, List.map_append, List.map_append]
          rfl
      · rintro Hx ⟨sx, ex⟩
        rw [List.take_of_length_le (by omega)] at ex
        refine ⟨by show 1 ≤ sizeLine; omega, fun e1 he1 => ?_⟩
        have se := same_upd (o := HO.lst [V.int 0]) he1
        have lns : ((qs.map fun x : Int × Int => x.1).map V.int).length ≤ 4 := by
          rw [List.length_map, List.length_map]
          omega
        refine ⟨D, e1, _, _, rfl, rfl, se _ _ ex, upd_same, by show _ + 1 ≤ sizeLine; omega, fun r hr => ?_⟩
        have sr := same_upd (o := HO.lst (((qs.map fun x : Int × Int => x.1).map V.int) ++ [V.int 0])) hr
        have er' : upd (upd Hx e1 (.lst [V.int 0])) r (.lst (((qs.map fun x : Int × Int => x.1).map V.int) ++ [V.int 0])) r = some (.lst (((qs.map fun x : Int × Int => x.1) ++ [0]).map V.int)) := by
          rw [upd_same, List.map_append (f := V.int)]
          rfl
        refine ⟨r, _, rfl, SqL.of er', by rw [List.length_append]; exact Nat.succ_pos _, fun m hm hmx => ⟨_, _, rfl, rfl, ?_⟩⟩
        have m0 := hmx 0 (List.mem_append_right _ List.mem_cons_self)
        have m3 : m ≤ 3 := by
          rcases List.mem_append.mp hm with z | z
          · obtain ⟨q, hq, rfl⟩ := List.mem_map.mp z
            exact (lq.2 q hq).2.1
          · rw [List.mem_singleton.mp z]; decide
        have mm : ∀ q ∈ qs, q.1 ≤ m := fun q hq => hmx _ (List.mem_append_left _ (List.mem_map.mpr ⟨q, hq, rfl⟩))
        refine ⟨_, _, rfl, hN _ _ ⟨(m + 1).toNat, by omega, by omega, fun q hq => ?_, ?_, (sx.trans se).trans sr⟩⟩
        · have := mm q hq
          omega
        · rw [show (((m + 1).toNat : Nat) : Int) = m + 1 by omega, ← eN]
          rfl
    rintro σ2 H2 ⟨top, t1, t4, kq, rfl, s2⟩
    have s02 := s1.trans s2
    obtain ⟨M, hM⟩ : ∃ M, M = hs.length * os.length := ⟨_, rfl⟩
    have M9 : M ≤ 9 := by rw [hM]; exact Nat.mul_le_mul h3 o3
    have M0 : 0 < M := by rw [hM]; exact Nat.mul_pos h0 o0
    have dM : hs.length ∣ M := by rw [hM]; exact Nat.dvd_mul_right _ _
    have dO : os.length ∣ M := by rw [hM]; exact Nat.dvd_mul_left _ _
    rw [← hM]
    clear hM eN
    refine ⟨by show 1 ≤ sizeLine; omega, fun c hc => ⟨_, rfl, rep_zero upd_same s3 fun r H3 s23 e3 => ⟨by show 2 ≤ sizeLine; omega, fun b hb => ⟨by show 1 ≤ sizeLine; omega, fun L hL => gn ?_⟩⟩⟩⟩
    have s2c := same_upd (o := HO.tup [V.int 0]) hc
    have sb := same_upd (o := HO.tup [V.int 0, V.ref r]) hb
    have sL := same_upd (o := HO.lst [V.ref b]) hL
    have eL : upd (upd H3 b (.tup [V.int 0, V.ref r])) L (.lst [V.ref b]) L = some (.lst [V.ref b]) := upd_same
    have kb : KeyAt (upd (upd H3 b (.tup [V.int 0, V.ref r])) L (.lst [V.ref b])) b (0, List.replicate span 0) := ⟨r, sL _ _ upd_same, sL _ _ (sb _ _ e3)⟩
    have s0L := s02.trans (s2c.trans (s23.trans (sb.trans sL)))
    have hLn : H L = none := by
      cases z : H L with
      | none => rfl
      | some o => rw [(s02.trans (s2c.trans (s23.trans sb))) _ _ z] at hL; cases hL
    generalize upd (upd H3 b (.tup [V.int 0, V.ref r])) L (.lst [V.ref b]) = H5 at *
    dsimp only [List.set]
    refine fun d hd => ?_
    have sd := same_upd (o := HO.dT []) hd
    have hdn : H d = none := by
      cases z : H d with
      | none => rfl
      | some o => rw [s0L _ _ z] at hd; cases hd
    have ed : upd H5 d (.dT []) d = some (.dT []) := upd_same
    generalize upd H5 d (.dT []) = H6 at *
    refine ⟨_, rfl, L, _, 0, .ref b, rfl, rfl, SqL.of (sd _ _ eL), rfl, b, (0, List.replicate span 0), rfl, kb.keep fun c ys e => sd _ _ e, ed, fun H7 n7 s7 => gn ?_⟩
    dsimp only [List.set]
    have ne7 : ∀ c ys, H6 c = some (.tup ys) → H7 c = some (.tup ys) := fun c ys e => by
      rw [s7 c (ne_of e ed fun z => nomatch z)]
      exact e
    have ws : WS P w H L d [b] [(0, List.replicate span 0)] H7 := by
      refine ⟨fun c o e => ?_, ?_, .cons ((kb.keep fun c ys e => sd _ _ e).keep ne7) .nil, n7⟩
      · have n1 : c ≠ d := fun z => by
          rw [z, hdn] at e
          cases e
        rw [s7 c n1]
        exact sd _ _ (s0L _ _ e)
      · have n1 : L ≠ d := fun z => by
          rw [z] at eL
          rw [eL] at hd
          cases hd
        rw [s7 L n1]
        exact sd _ _ eL
    have ko : KsOk ps hs M span top [(0, List.replicate span 0)] := KsOk.first M0
    clear kb n7 s7 ne7 ed sd s0L eL sL sb s2c s23 e3 hL hd hb hc
    refine ⟨60000, rfl, by omega, by omega, for_range (n := 60000) (fun i σ Hx => ∃ bs ks v7 v8 v9 v10 v11, WS P w H L d bs ks Hx ∧ KsOk ps hs M span top ks ∧ Done ps hs qs os M span top i ks ∧ i ≤ ks.length ∧ σ = [some (.ref ra), some (.ref oa'), some (.int (span : Nat)), some (.int ((M : Nat) : Int)), some (.int (top : Nat)), some (.ref L), some (.ref d), v7, v8, v9, v10, v11, none])
      ⟨[b], [(0, List.replicate span 0)], none, none, none, none, none, ws, ko, fun j _ h => absurd h (Nat.not_lt_zero j), Nat.zero_le _, rfl⟩ ?_ ?_⟩
    · rintro i σ Hx hi ⟨bs, ks, v7, v8, v9, v10, v11, wx, kx, dx, ix, rfl⟩
      refine gn ?_
      dsimp only [List.set]
      have ei : (0 : Int) + (i : Int) = ((i : Nat) : Int) := by omega
      rw [ei]
      have lb := wx.len
      refine ⟨_, rfl, _, rfl, L, _, rfl, .inl (SqL.of wx.e), _, _, rfl, rfl, _, rfl, ite2 (fun h => ?_) (fun h => next_of ?_)⟩
      · have h := of_decide_eq_true h
        rw [List.length_map] at h
        exact k1 (closed_strict dM dO sp sq t1 kq (dx.closed (by omega) kx.st)) _ wx.s
      have h : ¬ (((bs.map V.ref).length : Nat) : Int) ≤ (i : Int) := fun z => h (decide_eq_true z)
      rw [List.length_map] at h
      have hib : i < bs.length := by omega
      obtain ⟨k, hk, kat⟩ := paired_get wx.k (List.getElem?_eq_getElem hib)
      have hkm := List.mem_of_getElem? hk
      obtain ⟨r1, ek1, ek2⟩ := kat
      have kb := kx.bd k hkm
      have hg : (bs.map V.ref)[i]? = some (V.ref bs[i]) := by rw [List.getElem?_map, List.getElem?_eq_getElem hib]; rfl
      refine ⟨_, rfl, _, rfl, L, _, (i : Int), _, rfl, rfl, SqL.of wx.e, atI_nat hg, ?_⟩
      refine ⟨bs[i], _, rfl, SqT.of ek1, rfl, _, _, rfl, _, _, rfl, rfl, ?_⟩
      dsimp only [List.set]
      have eT : ((top : Int) + 1).toNat = top + 1 := by omega
      refine ⟨_, rfl, _, _, rfl, rfl, _, rfl, by omega, by omega, eT ▸ for_range (n := top + 1) (fun c σ Hy => ∃ bs ks v10 v11, WS P w H L d bs ks Hy ∧ KsOk ps hs M span top ks ∧ Done ps hs qs os M span top i ks ∧ i < ks.length ∧ ks[i]? = some k ∧ Hy r1 = some (.tup (k.2.map V.int)) ∧ (∀ c', c' < c → c' ≤ top → LetP ps hs k c' → LetP qs os k c' ∧ stepW M span k c' ∈ ks) ∧ σ = [some (.ref ra), some (.ref oa'), some (.int (span : Nat)), some (.int ((M : Nat) : Int)), some (.int (top : Nat)), some (.ref L), some (.ref d), some (.int ((i : Nat) : Int)), some (.int k.1), some (.ref r1), v10, v11, none])
        ⟨bs, ks, v10, v11, wx, kx, dx, by omega, hk, ek2, fun _ h => absurd h (Nat.not_lt_zero _), rfl⟩ ?_ ?_⟩
      · clear wx kx dx ix hk ek1 ek2 hkm hg hib h lb
        rintro c σ Hy hc ⟨bs, ks, v10, v11, wx, kx, dx, ix, hk, er1, hcc, rfl⟩
        refine gn ?_
        dsimp only [List.set]
        have ec : (0 : Int) + (c : Int) = ((c : Nat) : Int) := by omega
        rw [ec]
        have hkm := List.mem_of_getElem? hk
        have l100 : k.2.length ≤ 100 := by rw [kb.2.1]; omega
        -- what the outer loop goes on with
        have out : ∀ (bs : List Addr) (ks : List WK) (Hz : Hp) (v10 v11 : Option V), WS P w H L d bs ks Hz → KsOk ps hs M span top ks → Done ps hs qs os M span top i ks → i < ks.length → ks[i]? = some k → (∀ c', c' ≤ top → LetP ps hs k c' → LetP qs os k c' ∧ stepW M span k c' ∈ ks) → ∃ bs' ks' v7 v8 v9 v10' v11', WS P w H L d bs' ks' Hz ∧ KsOk ps hs M span top ks' ∧ Done ps hs qs os M span top (i + 1) ks' ∧ i + 1 ≤ ks'.length ∧ [some (V.ref ra), some (.ref oa'), some (.int (span : Nat)), some (.int ((M : Nat) : Int)), some (.int (top : Nat)), some (.ref L), some (.ref d), some (.int ((i : Nat) : Int)), some (.int k.1), some (.ref r1), v10, v11, none] = [some (V.ref ra), some (.ref oa'), some (.int (span : Nat)), some (.int ((M : Nat) : Int)), some (.int (top : Nat)), some (.ref L), some (.ref d), v7, v8, v9, v10', v11', none] := fun bs ks Hz v10 v11 wz kz dz iz hk hall => by
          refine ⟨bs, ks, _, _, _, v10, v11, wz, kz, fun j m hj e c hc l => ?_, iz, rfl⟩
          by_cases z : j = i
          · subst z
            rw [hk] at e
            cases e
            exact hall c hc l
          · exact dz j m (by omega) e c hc l
        refine ⟨_, rfl, _, rfl, _, rfl, _, rfl, .ref ra, k.1, r1, k.2, c, ps, hs, rfl, hR.same wx.s, lp.lm (by decide) (by decide), h0, er1, l100, fun H8 s8 => ?_⟩
        have w8 := wx.same s8
        by_cases l : LetP ps hs k c
        · have l' : LetP ps hs (k.1, k.2) c := l
          rw [decide_eq_true l']
          refine ⟨_, rfl, iteF (next_of ?_)⟩
          refine ⟨_, rfl, _, rfl, _, rfl, _, rfl, .ref oa', k.1, r1, k.2, c, qs, os, rfl, hO.same w8.s, lq.lm (by decide) (by decide), o0, s8 _ _ er1, l100, fun H9 s9 => ?_⟩
          have w9 := w8.same s9
          by_cases lo : LetP qs os k c
          · have lo' : LetP qs os (k.1, k.2) c := lo
            rw [decide_eq_true lo']
            refine ⟨_, rfl, iteF (next_of ?_)⟩
            refine ⟨_, rfl, _, _, rfl, rfl, .inl ⟨_, rfl, _, rfl, _, _, rfl, rfl, by omega, _, rfl, by show 1 ≤ sizeLine; omega, fun t1 ht1 => ⟨_, rfl, ?_⟩⟩⟩
            have st1 := same_upd (o := HO.tup [V.int ((c : Nat) : Int)]) ht1
            refine cat_tt upd_same (st1 _ _ ((s8.trans s9) _ _ er1)) (by rw [List.length_map]; show 1 + _ ≤ sizeLine; omega) fun p1 Hw1 sw1 e1' => ?_
            dsimp only [tNoPart]
            refine ⟨_, rfl, _, rfl, slice_tt (w := ((span : Nat) : Int)) (by omega) e1' fun p2 Hw2 sw2 e2' => ⟨by show 2 ≤ sizeLine; omega, fun nb hnb => gn ?_⟩⟩
            have e3' : Hw2 p2 = some (.tup ((stepW M span k c).2.map V.int)) := by
              rw [e2', Int.toNat_natCast]
              unfold stepW
              rw [List.map_take]
              rfl
            have snb := same_upd (o := HO.tup [V.int ((k.1 + 1) % (M : Int)), V.ref p2]) hnb
            have w10 := w9.same (st1.trans (sw1.trans (sw2.trans snb)))
            have er10 := (st1.trans (sw1.trans (sw2.trans snb))) _ _ ((s8.trans s9) _ _ er1)
            have kn : KeyAt (upd Hw2 nb (.tup [V.int ((k.1 + 1) % (M : Int)), V.ref p2])) nb (stepW M span k c) := ⟨p2, upd_same, snb _ _ e3'⟩
            generalize upd Hw2 nb (.tup [V.int ((k.1 + 1) % (M : Int)), V.ref p2]) = H10 at *
            dsimp only [List.set]
            have hct : c ≤ top := by omega
            obtain ⟨xs0, _, _, _, nn, _⟩ := id w10.nd
            have few := kx.few nn M9 s3 t4
            refine ⟨_, rfl, _, rfl, d, nb, stepW M span k c, ks, rfl, rfl, w10.nd, kn, _, rfl, ?_⟩
            by_cases hin : stepW M span k c ∈ ks
            · rw [decide_eq_true hin]
              refine iteF (next_of ?_)
              refine ⟨bs, ks, _, _, w10, kx, dx, ix, hk, er10, fun c' hc' hct' lc => ?_, rfl⟩
              by_cases z : c' = c
              · subst z
                exact ⟨lo, hin⟩
              · exact hcc c' (by omega) hct' lc
            · rw [decide_eq_false hin]
              refine iteT ?_
              refine ⟨_, rfl, _, rfl, d, nb, stepW M span k c, ks, rfl, rfl, w10.nd, kn, hin, by omega, fun H11 n11 s11 => ?_⟩
              obtain ⟨eL11, w11, t11⟩ := w10.add hLn hdn kn n11 s11
              refine ⟨_, rfl, .inl ⟨rfl, _, SqL.of eL11⟩, _, rfl, L, _, _, rfl, rfl, eL11, by rw [List.length_map]; have := w10.len; omega, ?_⟩
              refine ⟨bs ++ [nb], ks ++ [stepW M span k c], _, _, w11, kx.add hkm M0 dM sp l hct, dx.more (by omega) _, by rw [List.length_append]; omega, by rw [List.getElem?_append_left ix]; exact hk, t11 _ _ er10, fun c' hc' hct' lc => ?_, rfl⟩
              by_cases z : c' = c
              · subst z
                exact ⟨lo, List.mem_append_right _ List.mem_cons_self⟩
              · obtain ⟨a, b⟩ := hcc c' (by omega) hct' lc
                exact ⟨a, List.mem_append_left _ b⟩
          · have lo' : ¬ LetP qs os (k.1, k.2) c := lo
            rw [decide_eq_false lo']
            refine ⟨_, rfl, iteT ?_⟩
            exact k2 ((kx.snd k hkm).loose dM dO sp sq l lo) _ w9.s
        · have l' : ¬ LetP ps hs (k.1, k.2) c := l
          rw [decide_eq_false l']
          refine ⟨_, rfl, iteT ?_⟩
          exact out bs ks H8 _ _ w8 kx dx ix hk fun c' hc' lc => by
            by_cases z : c' < c
            · exact hcc c' z hc' lc
            · exact absurd (lc.mono (by omega)) l
      · rintro σ Hy ⟨bs, ks, v10, v11, wx, kx, dx, ix, hk, er1, hcc, rfl⟩
        refine ⟨bs, ks, _, _, _, v10, v11, wx, kx, fun j m hj e c hc l => ?_, ix, rfl⟩
        by_cases z : j = i
        · subst z
          rw [hk] at e
          cases e
          exact hcc c (by omega) hc l
        · exact dx j m (by omega) e c hc l
    · rintro σ Hx ⟨bs, ks, v7, v8, v9, v10, v11, wx, kx, dx, ix, rfl⟩
      obtain ⟨xs, _, _, _, nn, _⟩ := wx.nd
      have := kx.few nn M9 s3 t4
      omega
end
end KP

set_option Elab.async false
set_option maxRecDepth 100000
set_option maxHeartbeats 8000000
set_option linter.all false
/-! Ours: _law_right. -/
namespace KP
open PySem PySem.Spec PyProof.Rows L2 Gr GxR
theorem plain_iff {ps qs : List (Int × Int)} (hp : Lm ps) (hq : Lm qs) : tidyI ps = tidyI qs ↔ (Stricter ps [1] qs [1] ∧ Stricter qs [1] ps [1]) := by
  rw [tidy_iff hp.p1 hq.p1]
  have ga : ∀ {xs : List (Int × Int)}, Lm xs → asc 0 ((List.range 8).map (G xs)) := fun {xs} l => by
    refine asc_pw ?_ fun x hx => ?_
    · refine List.pairwise_iff_getElem.mpr fun i j hi hj hij => ?_
      exact G_srt l.p1 8 i j hi hj (Nat.le_of_lt hij)
    · obtain ⟨k, _, rfl⟩ := List.mem_map.mp hx
      exact G_pos l.p1 k
  constructor
  · exact fun a => ⟨fun rs h pl => (polite_alk hp.k6 hq.k6 (asc_srt h) a).mp pl, fun rs h pl => (polite_alk hp.k6 hq.k6 (asc_srt h) a).mpr pl⟩
  · rintro ⟨a, b⟩
    exact alk_rows hp.k6 hq.k6 (a _ (ga hp) (G_polite hp.p1 8)) (b _ (ga hq) (G_polite hq.p1 8))
theorem eqv_two (a b : Bool) : PyData.eqv (.list ([a, b].map PyData.bool)) (.list ([a, b].map PyData.bool)) = true := by cases a <;> cases b <;> rfl
theorem eqv_tt (a b : Bool) : PyData.eqv (.list ([a, b].map PyData.bool)) (.list ([true, true].map PyData.bool)) = (a && b) := by cases a <;> cases b <;> rfl
theorem shp_two (a b : Bool) : SeqAt.shaped (.list ([a, b].map PyData.bool)) = true := by cases a <;> cases b <;> rfl
theorem walk_of {vs : List V} {H : Hp} {Q : VK} {E : XK} {rv ov : V} {ps qs : List (Int × Int)} {hs os : List Int} (e : vs = [rv, ov]) (h1 : Od H rv (rulesP ps hs)) (h2 : Od H ov (rulesP qs os)) (lp : BdL 3 4 ps) (lq : BdL 3 4 qs) (gh : Hrs hs) (go : Hrs os) (h3 : hs.length ≤ 3) (o3 : os.length ≤ 3) (b : Bool) (hb : b = true ↔ Stricter ps hs qs os) (k : ∀ H', Same H H' → Q (.bl b) H') : spByWalk vs H Q E :=
  ⟨rv, ov, ps, qs, hs, os, e, h1, h2, lp, lq, gh, go, h3, o3, fun st H' s => by have := k H' s; rw [hb.mpr st] at this; exact this, fun st H' s => by
    have := k H' s
    rw [Bool.eq_false_iff.mpr fun z => st (hb.mp z)] at this
    exact this⟩
structure RS {K : PySem.W.Frag} {mg : Str → Option Value} (T : D K mg) (p : Addr) (v1 v2 : V) (ps : List (Int × Int)) (hs : List Int) (qs : List (Int × Int)) (os : List Int) (H0 H : Hp) : Prop where
  mv : Mv T p H0 H
  o1 : Od H v1 (rulesP ps hs)
  o2 : Od H v2 (rulesP qs os)
theorem RS.step {K : PySem.W.Frag} {mg : Str → Option Value} {T : D K mg} {p : Addr} {v1 v2 : V} {ps qs : List (Int × Int)} {hs os : List Int} {H0 H H1 : Hp} (h : RS T p v1 v2 ps hs qs os H0 H) (m : Mv T p H H1) : RS T p v1 v2 ps hs qs os H0 H1 :=
  ⟨h.mv.trans m, h.o1.ts (m.ts h.mv.2.1) (tupD_rules _ _), h.o2.ts (m.ts h.mv.2.1) (tupD_rules _ _)⟩
theorem RS.up {K : PySem.W.Frag} {mg : Str → Option Value} {T : D K mg} {p : Addr} {v1 v2 : V} {ps qs : List (Int × Int)} {hs os : List Int} {H0 H H1 : Hp} (h : RS T p v1 v2 ps hs qs os H0 H) (u : UpL (tabs T) H H1) : RS T p v1 v2 ps hs qs os H0 H1 := h.step (Mv.up h.mv.2.1 h.mv.2.2 u)
theorem RS.same {K : PySem.W.Frag} {mg : Str → Option Value} {T : D K mg} {p : Addr} {v1 v2 : V} {ps qs : List (Int × Int)} {hs os : List Int} {H0 H H1 : Hp} (h : RS T p v1 v2 ps hs qs os H0 H) (s : Same H H1) : RS T p v1 v2 ps hs qs os H0 H1 := h.step (Mv.same h.mv.2.1 h.mv.2.2 s)
/-- a display of limits with (1,) -/
theorem rul_od {H : Hp} {lv : V} {ps : List (Int × Int)} {c1 c2 : Addr} (h1 : H c1 = none) (h2 : (upd H c1 (.tup [V.int 1])) c2 = none) (o : Od H lv (limsP ps)) : Same H (upd (upd H c1 (.tup [V.int 1])) c2 (.tup [lv, V.ref c1])) ∧ Od (upd (upd H c1 (.tup [V.int 1])) c2 (.tup [lv, V.ref c1])) (.ref c2) (rulesP ps [1]) := by
  have s1 := same_upd (o := HO.tup [V.int 1]) h1
  have s2 := same_upd (o := HO.tup [lv, V.ref c1]) h2
  exact ⟨s1.trans s2, .tup upd_same (.cons (o.same (s1.trans s2)) (.cons (.tup (s2 _ _ upd_same) (.cons (.int 1) .nil)) .nil))⟩
def spRight2 {K : PySem.W.Frag} {mg : Str → Option Value} (T : D K mg) : Sp := fun vs H Q _ => ∃ (p : Addr) (b : Bool), vs = [.ref p, .bl b] ∧ Well H p ∧ Tb (tabs T) H ∧ ∀ H', Mv T p H H' → Q (.bl true) H'
section
variable {P : Program} {w : World} {K : PySem.W.Frag} {mg : Str → Option Value} {base : Heap} {C : Addr}
theorem sc_right : FnScope ["_law_well_here", "_law_is_small", "_law_top", "_law_width", "_law_hour_top", "_law_one_here", "_law_other_here", "_law_there", "_law_back", "_law_plain"] ["_law_well_here", "_law_is_small"] (defScope s_l_right) := ⟨rfl, rfl, rfl, by decide +kernel, rfl, by decide +kernel, by decide +kernel⟩
open Classical in
theorem ok_right (T : D K mg) (TB : Tabs base T) (hM : SysM K) : FnQ P w K mg base CX0 11 T.f_l_right T.d_l_right ["_law_well_here", "_law_is_small"] (spRight2 T) := by
  refine funQ T.U_l_right sc_right (fun vs H Q E h => ?_) (fun cdv A outer s H vs Q E hgu hr h => ?_)
  · obtain ⟨p, b, rfl, _⟩ := h
    rfl
  · obtain ⟨p, b, rfl, hw, hT, k⟩ := h
    have nd := sc_right.nd
    have mz : 5000 ≤ sizeLine := by decide
    have hu64 : (A.deeper (envOfC "_law_right" (defScope s_l_right) s.heap.objs.size T.f_l_right cdv)).units + 64 < cLine := hr.units
    have GP : FnQ P w K mg base CX0 10 T.f_l_pair_right T.d_l_pair_right ["_law_rule", "_law_other_here", "_law_due"] (spPairR T) := ok_pairr T TB hM
    refine ⟨_, pss_cons (ps_asg (pe_ifExp (pt_val (pv 1)) (pe_tup (pa_cons pe_int (pa_cons pe_int (pa_cons pe_int pa_nil)))) (pe_tup (pa_cons pe_int (pa_cons pe_int (pa_cons pe_int pa_nil))))) (pg_tup rfl (pgs_cons (pg_name (i := 2) nd rfl (.inl rfl)) (pgs_cons (pg_name (i := 3) nd rfl (.inl rfl)) (pgs_cons (pg_name (i := 4) nd rfl (.inl rfl)) pgs_nil)))))
      (pss_cons (ps_set (i := 5) nd rfl (.inl rfl) (pe_tup (pa_cons (pe_call (ok_slim2 T) (hr.mono (by decide)) rfl T.g_l_some_limits T.U_l_some_limits.kp T.b_l_some_limits .nil pass0 (pa_cons (pv 0) (pa_cons (pv 2) (pa_cons (pv 3) pa_nil)))) (pa_cons (pe_call (ok_shrs2 T) (hr.mono (by decide)) rfl T.g_l_some_hours T.U_l_some_hours.kp T.b_l_some_hours .nil pass0 (pa_cons (pv 0) (pa_cons (pv 4) pa_nil))) pa_nil))))
      (pss_cons (ps_set (i := 6) nd rfl (.inl rfl) (pe_call (ok_other2 T) (hr.mono (by decide)) rfl T.g_l_other T.U_l_other.kp T.b_l_other .nil pass0 (pa_cons (pv 0) (pa_cons (pv 5) (pa_cons (pv 2) (pa_cons (pv 3) pa_nil))))))
      (pss_cons (ps_par (i := 7) (j := 8) (by rfl) nd rfl rfl (by decide) rfl rfl (pa_cons (pe_call (ok_bymost T) (hr.mono (by decide)) rfl T.g_l_by_most T.U_l_by_most.kp T.b_l_by_most .nil pass0 (pa_cons (pv 5) (pa_cons (pv 6) pa_nil))) (pa_cons (pe_call (ok_bymost T) (hr.mono (by decide)) rfl T.g_l_by_most T.U_l_by_most.kp T.b_l_by_most .nil pass0 (pa_cons (pv 6) (pa_cons (pv 5) pa_nil))) pa_nil)) (by rfl))
      (pss_cons (ps_if (PW.pt (pw_and (pt_val (pv 1)) (pw_and1 (pt_cmpR (op_neD hu64) (pe_lst (pa_cons (pv 7) (pa_cons (pv 8) pa_nil))) (pe_lst (pa_cons (pe_call (ok_walk T) (hr.mono (by decide)) rfl T.g_l_by_walk T.U_l_by_walk.kp T.b_l_by_walk .nil pass0 (pa_cons (pv 5) (pa_cons (pv 6) pa_nil))) (pa_cons (pe_call (ok_walk T) (hr.mono (by decide)) rfl T.g_l_by_walk T.U_l_by_walk.kp T.b_l_by_walk .nil pass0 (pa_cons (pv 6) (pa_cons (pv 5) pa_nil))) pa_nil))) (nomark _)))))
        (pss_one (ps_ret pe_bl))
        (pss_nil))
      (pss_cons (ps_if (PW.pt (pw_or (pt_not (pt_val (pe_callQ hgu GP hr rfl T.g_l_pair_right T.U_l_pair_right.kp T.b_l_pair_right .nil pass0 (pa_cons (pv 5) (pa_cons (pv 6) (pa_cons (pv 7) pa_nil)))))) (pw_or1 (pt_not (pt_val (pe_callQ hgu GP hr rfl T.g_l_pair_right T.U_l_pair_right.kp T.b_l_pair_right .nil pass0 (pa_cons (pv 6) (pa_cons (pv 5) (pa_cons (pv 8) pa_nil)))))))))
        (pss_one (ps_ret pe_bl))
        (pss_nil))
      (pss_cons (ps_if (pt_cmpR op_ne (pe_callB (call_reprD hgu hu64 hM) (by rfl) T.repr (by decide +kernel) (pa_cons (pe_lst (pa_cons (pe_call (ok_alikeRG T TB) (hr.mono (by decide)) rfl T.g_are_alike_rules T.U_are_alike_rules.kp T.b_are_alike_rules .nil pass0 (pa_cons (pv 5) (pa_cons (pv 6) pa_nil))) (pa_cons (pe_call (ok_strictG T TB) (hr.mono (by decide)) rfl T.g_is_stricter T.U_is_stricter.kp T.b_is_stricter .nil pass0 (pa_cons (pv 5) (pa_cons (pv 5) pa_nil))) pa_nil))) pa_nil)) (pe_callB (call_reprD hgu hu64 hM) (by rfl) T.repr (by decide +kernel) (pa_cons (pe_lst (pa_cons (pe_and (pv 7) (pe_one (pv 8))) (pa_cons pe_bl pa_nil))) pa_nil)) (nomark _))
        (pss_one (ps_ret pe_bl))
        (pss_nil))
      (pss_cons (ps_set (i := 9) nd rfl (.inl rfl) (pe_lst (pa_cons (pe_call (ok_bymost T) (hr.mono (by decide)) rfl T.g_l_by_most T.U_l_by_most.kp T.b_l_by_most .nil pass0 (pa_cons (pe_tup (pa_cons (pe_ix ix_tup (pv 5) pe_int (fun _ _ => rfl)) (pa_cons (pe_tup (pa_cons pe_int pa_nil)) pa_nil))) (pa_cons (pe_tup (pa_cons (pe_ix ix_tup (pv 6) pe_int (fun _ _ => rfl)) (pa_cons (pe_tup (pa_cons pe_int pa_nil)) pa_nil))) pa_nil))) (pa_cons (pe_call (ok_bymost T) (hr.mono (by decide)) rfl T.g_l_by_most T.U_l_by_most.kp T.b_l_by_most .nil pass0 (pa_cons (pe_tup (pa_cons (pe_ix ix_tup (pv 6) pe_int (fun _ _ => rfl)) (pa_cons (pe_tup (pa_cons pe_int pa_nil)) pa_nil))) (pa_cons (pe_tup (pa_cons (pe_ix ix_tup (pv 5) pe_int (fun _ _ => rfl)) (pa_cons (pe_tup (pa_cons pe_int pa_nil)) pa_nil))) pa_nil))) pa_nil))))
      (pss_one (ps_ret (pe_cmpR op_eq (pe_callB (call_reprD hgu hu64 hM) (by rfl) T.repr (by decide +kernel) (pa_cons (pe_call (ok_alikel T TB) (hr.mono (by decide)) rfl T.g_are_alike_limits T.U_are_alike_limits.kp T.b_are_alike_limits .nil pass0 (pa_cons (pe_ix ix_tup (pv 5) pe_int (fun _ _ => rfl)) (pa_cons (pe_ix ix_tup (pv 6) pe_int (fun _ _ => rfl)) pa_nil))) pa_nil)) (pe_callB (call_reprD hgu hu64 hM) (by rfl) T.repr (by decide +kernel) (pa_cons (pe_cmpR (op_eqD hu64) (pv 9) (pe_lst (pa_cons pe_bl (pa_cons pe_bl pa_nil))) (nomark _)) pa_nil)) (nomark _))))))))))), ?_⟩
    refine cut1 (fun σ' H' => ∃ tp wd ht : Int, 0 < tp ∧ tp ≤ 6 ∧ 0 < wd ∧ wd ≤ 12 ∧ 0 < ht ∧ ht ≤ 12 ∧ (b = true → tp = 3 ∧ wd = 4 ∧ ht = 3) ∧ σ' = [some (.ref p), some (.bl b), some (.int tp), some (.int wd), some (.int ht), none, none, none, none, none] ∧ Same H H') (fun N hN => ?_) ?_
    · refine ⟨_, rfl, _, rfl, ite2 (fun h => ?_) (fun h => ?_)⟩
      · refine ⟨by show 3 ≤ sizeLine; omega, fun c hc => ⟨c, _, rfl, SqT.of upd_same, rfl, _, _, rfl, _, _, rfl, _, _, rfl, rfl, ?_⟩⟩
        exact hN _ _ ⟨3, 4, 3, by decide, by decide, by decide, by decide, by decide, by decide, fun _ => ⟨rfl, rfl, rfl⟩, rfl, same_upd hc⟩
      · refine ⟨by show 3 ≤ sizeLine; omega, fun c hc => ⟨c, _, rfl, SqT.of upd_same, rfl, _, _, rfl, _, _, rfl, _, _, rfl, rfl, ?_⟩⟩
        exact hN _ _ ⟨6, 12, 12, by decide, by decide, by decide, by decide, by decide, by decide, fun z => absurd z h, rfl, same_upd hc⟩
    rintro σ1 H1 ⟨tp, wd, ht, t0, t6, w0, w12, u0, u12, sm, rfl, s1⟩
    have w1 := hw.same s1
    refine ⟨_, rfl, _, rfl, _, rfl, p, tp, wd, rfl, w1, t0, t6, w0, w12, fun lv d H2 b2 w2 o2 hd => ?_⟩
    obtain ⟨ps, rfl, lp⟩ := hd
    rw [pr_tw] at o2
    have lp : BdL tp wd ps := lp
    refine ⟨_, rfl, _, rfl, p, ht, rfl, w2, u0, u12, fun hv d H3 b3 w3 o3 hd => ⟨by show 2 ≤ sizeLine; omega, fun v1 hv1 => gn ?_⟩⟩
    obtain ⟨hs, rfl, h0, hl, hd01, ho⟩ := hd
    have gh : Hrs hs := ⟨h0, by omega, hd01, ho⟩
    dsimp only [List.set]
    have sv := same_upd (o := HO.tup [lv, hv]) hv1
    have o1 : Od (upd H3 v1 (.tup [lv, hv])) (.ref v1) (rulesP ps hs) := .tup upd_same (.cons ((o2.unhide.ts (but_ts w2 b3) (tupD_lims _)).same sv) (.cons (o3.unhide.same sv) .nil))
    have m3 : Mv T p H (upd H3 v1 (.tup [lv, hv])) := Mv.but hw hT ((But.same' s1).trans (b2.trans (b3.trans (But.same' sv)))) (w3.same sv)
    have w4 := w3.same sv
    generalize upd H3 v1 (.tup [lv, hv]) = H4 at *
    refine ⟨_, rfl, _, rfl, _, rfl, _, rfl, p, .ref v1, tp, wd, ps, hs, rfl, w4, o1, lp, gh, t0, t6, w0, w12, fun v2 qs os H5 b5 w5 o5 lq go lo => gn ?_⟩
    dsimp only [List.set]
    have rs5 : RS T p (.ref v1) v2 ps hs qs os H H5 := ⟨m3.trans (Mv.but m3.2.1 m3.2.2 b5 w5), o1.ts (but_ts w4 b5) (tupD_rules _ _), o5⟩
    have lmp := lp.lm t6 w12
    have lmq := lq.lm t6 w12
    clear o1 o5 m3 b5 w5 w4 sv hv1 o3 o2 b3 b2 w3 w2
    obtain ⟨x, hx⟩ : ∃ x, x = decide (Stricter ps hs qs os) := ⟨_, rfl⟩
    obtain ⟨y, hy⟩ : ∃ y, y = decide (Stricter qs os ps hs) := ⟨_, rfl⟩
    have hx2 : x = true ↔ Stricter ps hs qs os := by rw [hx, decide_eq_true_iff]
    have hy2 : y = true ↔ Stricter qs os ps hs := by rw [hy, decide_eq_true_iff]
    refine ⟨_, rfl, _, rfl, .ref v1, v2, ps, qs, hs, os, rfl, rs5.o1, rs5.o2, lmp, gh, lmq, go, fun H6 s6 => ?_⟩
    have rs6 := rs5.same s6
    refine ⟨_, rfl, _, rfl, v2, .ref v1, qs, ps, os, hs, rfl, rs6.o2, rs6.o1, lmq, go, lmp, gh, fun H7 s7 => ⟨_, _, rfl, ?_⟩⟩
    have rs7 := rs6.same s7
    rw [← hx, ← hy]
    dsimp only [List.set]
    refine cut1 (fun σ' H' => σ' = [some (.ref p), some (.bl b), some (.int tp), some (.int wd), some (.int ht), some (.ref v1), some v2, some (.bl x), some (.bl y), none] ∧ Same H7 H') (fun N hN => ?_) ?_
    · refine ⟨_, rfl, _, rfl, ite2 (fun hb => ?_) (fun hb => iteF (next_of (hN _ _ ⟨rfl, .refl _⟩)))⟩
      obtain ⟨rfl, rfl, rfl⟩ := sm hb
      refine ⟨_, rfl, _, rfl, by show 2 ≤ sizeLine; omega, fun a1 ha1 => ?_⟩
      have s8 := same_upd (o := HO.lst [V.bl x, V.bl y]) ha1
      have e8 : upd H7 a1 (HO.lst [V.bl x, V.bl y]) a1 = some (.lst [V.bl x, V.bl y]) := upd_same
      generalize upd H7 a1 (HO.lst [V.bl x, V.bl y]) = H8 at *
      have rs8 := rs7.same s8
      refine ⟨_, rfl, _, rfl, ?_⟩
      dsimp only [tNil]
      refine walk_of rfl rs8.o1 rs8.o2 lp lq gh go (by omega) (by omega) x hx2 fun H9 s9 => ?_
      have rs9 := rs8.same s9
      refine ⟨_, rfl, _, rfl, ?_⟩
      dsimp only [tNil]
      refine walk_of rfl rs9.o2 rs9.o1 lq lp go gh (by omega) (by omega) y hy2 fun H10 s10 => ⟨by show 2 ≤ sizeLine; omega, fun a2 ha2 => ?_⟩
      have s11 := same_upd (o := HO.lst [V.bl x, V.bl y]) ha2
      refine ⟨.list ([x, y].map PyData.bool), .list ([x, y].map PyData.bool), .lst (SqL.of ((s9.trans (s10.trans s11)) _ _ e8)) (.cons (.bl _) (.cons (.bl _) .nil)), .lst (SqL.of upd_same) (.cons (.bl _) (.cons (.bl _) .nil)), shp_two _ _, shp_two _ _, _, rfl, ?_⟩
      rw [eqv_two]
      exact iteF (next_of (hN _ _ ⟨rfl, s8.trans (s9.trans (s10.trans s11))⟩))
    rintro σ8 H8 ⟨rfl, s8⟩
    have rs8 := rs7.same s8
    refine ⟨_, rfl, _, rfl, _, rfl, .ref v1, v2, ps, qs, hs, os, by rw [hx]; rfl, rs8.o1, rs8.o2, lmp, gh, lmq, go, rs8.mv.2.2, fun H9 u9 => ⟨_, rfl, iteF ?_⟩⟩
    have rs9 := rs8.up u9
    refine ⟨_, rfl, _, rfl, _, rfl, v2, .ref v1, qs, ps, os, hs, by rw [hy]; rfl, rs9.o2, rs9.o1, lmq, go, lmp, gh, rs9.mv.2.2, fun H10 u10 => ⟨_, rfl, iteF (next_of ?_)⟩⟩
    have rs10 := rs9.up u10
    clear rs9 rs8 rs7 rs6 rs5
    -- both are alike
    dsimp only
    refine cut1 (fun σ' H' => σ' = [some (.ref p), some (.bl b), some (.int tp), some (.int wd), some (.int ht), some (.ref v1), some v2, some (.bl x), some (.bl y), none] ∧ RS T p (.ref v1) v2 ps hs qs os H H') (fun N hN => ?_) ?_
    · refine ⟨_, rfl, _, rfl, .ref v1, v2, ps, qs, hs, os, rfl, rs10.o1, rs10.o2, lmp, gh, lmq, go, rs10.mv.2.2, fun H11 u11 => ?_⟩
      have rs11 := rs10.up u11
      refine ⟨_, rfl, _, rfl, .ref v1, .ref v1, ps, ps, hs, hs, rfl, rs11.o1, rs11.o1, lmp, gh, lmp, gh, rs11.mv.2.2, fun H12 u12 => ⟨by show 2 ≤ sizeLine; omega, fun a1 ha1 => ?_⟩⟩
      have rs12 := rs11.up u12
      have est : decide (Stricter ps hs ps hs) = true := decide_eq_true fun _ _ h => h
      rw [est, ← hx, ← hy]
      obtain ⟨f1, f2, f3⟩ := bools_facts (bs := [x && y, true]) (by show 2 ≤ 100; decide)
      have odB : ∀ {Hy : Hp} {c : Addr}, Hy c = some (.lst [V.bl (x && y), V.bl true]) → Dq K Hy (.ref c) (.list ([x && y, true].map PyData.bool)) := fun e => .lst (SqL.of e) (.cons (.bl _) (.cons (.bl _) .nil))
      have s13 := same_upd (o := HO.lst [V.bl (x && y), V.bl true]) ha1
      have e13 : upd H12 a1 (HO.lst [V.bl (x && y), V.bl true]) a1 = some (.lst [V.bl (x && y), V.bl true]) := upd_same
      generalize upd H12 a1 (HO.lst [V.bl (x && y), V.bl true]) = H13 at *
      have rs13 := rs12.same s13
      refine ⟨_, _, rfl, odB e13, f1, f2, f3, _, rfl, _, rfl, ?_⟩
      clear hx hy hx2 hy2 est rs10 rs11 rs12
      cases x with
      | true =>
        refine iteT ⟨_, rfl, by show 2 ≤ sizeLine; omega, fun a2 ha2 => ⟨_, _, rfl, odB upd_same, f1, f2, f3, rfl, _, rfl, ?_⟩⟩
        rw [decide_eq_true rfl]
        exact iteF (next_of (hN _ _ ⟨rfl, rs13.same (same_upd ha2)⟩))
      | false =>
        refine iteF ⟨by show 2 ≤ sizeLine; omega, fun a2 ha2 => ⟨_, _, rfl, odB upd_same, f1, f2, f3, rfl, _, rfl, ?_⟩⟩
        rw [decide_eq_true rfl]
        exact iteF (next_of (hN _ _ ⟨rfl, rs13.same (same_upd ha2)⟩))
    clear rs10
    rintro σ11 H11 ⟨rfl, rs11⟩
    -- the limits alone
    obtain ⟨r1, av, hv', er, e1, oa, oh⟩ := od_rules rs11.o1
    cases er
    obtain ⟨r2, bv, ov', rfl, e2, ob, oo⟩ := od_rules rs11.o2
    refine ⟨_, rfl, v1, _, 0, av, rfl, rfl, SqT.of e1, rfl, by show 1 ≤ sizeLine; omega, fun c1 hc1 => ⟨by show 2 ≤ sizeLine; omega, fun c2 hc2 => ?_⟩⟩
    obtain ⟨s12, q1⟩ := rul_od hc1 hc2 oa
    generalize upd (upd H11 c1 (HO.tup [V.int 1])) c2 (HO.tup [av, V.ref c1]) = H12 at *
    refine ⟨_, rfl, r2, _, 0, bv, rfl, rfl, SqT.of (s12 _ _ e2), rfl, by show 1 ≤ sizeLine; omega, fun c3 hc3 => ⟨by show 2 ≤ sizeLine; omega, fun c4 hc4 => ?_⟩⟩
    obtain ⟨s13, q2⟩ := rul_od hc3 hc4 (ob.same s12)
    generalize upd (upd H12 c3 (HO.tup [V.int 1])) c4 (HO.tup [bv, V.ref c3]) = H13 at *
    refine ⟨_, _, ps, qs, [1], [1], rfl, q1.same s13, q2, lmp, one_hrs, lmq, one_hrs, fun H14 s14 => ?_⟩
    have s1114 := s12.trans (s13.trans s14)
    refine ⟨_, rfl, r2, _, 0, bv, rfl, rfl, SqT.of (s1114 _ _ e2), rfl, by show 1 ≤ sizeLine; omega, fun c5 hc5 => ⟨by show 2 ≤ sizeLine; omega, fun c6 hc6 => ?_⟩⟩
    obtain ⟨s15, q3⟩ := rul_od hc5 hc6 (ob.same s1114)
    generalize upd (upd H14 c5 (HO.tup [V.int 1])) c6 (HO.tup [bv, V.ref c5]) = H15 at *
    refine ⟨_, rfl, v1, _, 0, av, rfl, rfl, SqT.of ((s1114.trans s15) _ _ e1), rfl, by show 1 ≤ sizeLine; omega, fun c7 hc7 => ⟨by show 2 ≤ sizeLine; omega, fun c8 hc8 => ?_⟩⟩
    obtain ⟨s16, q4⟩ := rul_od hc7 hc8 (oa.same (s1114.trans s15))
    generalize upd (upd H15 c7 (HO.tup [V.int 1])) c8 (HO.tup [av, V.ref c7]) = H16 at *
    refine ⟨_, _, qs, ps, [1], [1], rfl, q3.same s16, q4, lmq, one_hrs, lmp, one_hrs, fun H17 s17 => ⟨by show 2 ≤ sizeLine; omega, fun aL haL => gn ?_⟩⟩
    dsimp only [List.set]
    obtain ⟨X, hX⟩ : ∃ X, X = decide (Stricter ps [1] qs [1]) := ⟨_, rfl⟩
    obtain ⟨Y, hY⟩ : ∃ Y, Y = decide (Stricter qs [1] ps [1]) := ⟨_, rfl⟩
    rw [← hX, ← hY]
    have sL := same_upd (o := HO.lst [V.bl X, V.bl Y]) haL
    have eL : upd H17 aL (HO.lst [V.bl X, V.bl Y]) aL = some (.lst [V.bl X, V.bl Y]) := upd_same
    generalize upd H17 aL (HO.lst [V.bl X, V.bl Y]) = H18 at *
    have s18 := s1114.trans (s15.trans (s16.trans (s17.trans sL)))
    have rs18 := rs11.same s18
    have eXY : decide (tidyI ps = tidyI qs) = (X && Y) := by
      rw [Bool.eq_iff_iff, decide_eq_true_iff, plain_iff lmp lmq, hX, hY, Bool.and_eq_true, decide_eq_true_iff, decide_eq_true_iff]
    obtain ⟨f1, f2, f3⟩ := bool_facts (X && Y)
    refine ⟨_, rfl, v1, _, 0, av, rfl, rfl, SqT.of (s18 _ _ e1), rfl, _, rfl, r2, _, 0, bv, rfl, rfl, SqT.of (s18 _ _ e2), rfl, av, bv, ps, qs, rfl, oa.same s18, ob.same s18, lmp, lmq, rs18.mv.2.2, fun H19 u19 => ?_⟩
    have rs19 := rs18.up u19
    rw [eXY]
    have eL19 := (u19.stay rs18.mv.2.2) _ _ eL fun _ q => nomatch q
    refine ⟨_, _, rfl, .bl _, f1, f2, f3, _, rfl, by show 2 ≤ sizeLine; omega, fun a2 ha2 => ?_⟩
    have s20 := same_upd (o := HO.lst [V.bl true, V.bl true]) ha2
    refine ⟨.list ([X, Y].map PyData.bool), .list ([true, true].map PyData.bool), .lst (SqL.of (s20 _ _ eL19)) (.cons (.bl _) (.cons (.bl _) .nil)), .lst (SqL.of upd_same) (.cons (.bl _) (.cons (.bl _) .nil)), shp_two _ _, shp_two _ _, ?_⟩
    rw [eqv_tt]
    refine ⟨_, _, rfl, .bl _, f1, f2, f3, rfl, ?_⟩
    rw [decide_eq_true rfl]
    exact k _ (rs19.same s20).mv
end
end KP

set_option Elab.async false
set_option maxRecDepth 100000
set_option maxHeartbeats 4000000
set_option linter.all false
/-! Ours: the law's call where tables of code objects may grow, by a promise for calls where no repr is under way. -/
namespace Gr
open PySem PySem.Spec PyProof.Rows L2 GxR
/-- what is tracked at the law's call: the tables at ts, and the script where it is not written -/
def startH (ts : List Addr) (a : Addr) (o : Option HO) : Hp := fun b => if b ∈ ts then some (.tbl #[]) else if b = a then o else none
theorem startH_tab {ts : List Addr} {a b : Addr} {o : Option HO} (h : b ∈ ts) : startH ts a o b = some (.tbl #[]) := if_pos h
theorem startH_at {ts : List Addr} {a : Addr} {o : Option HO} (h : a ∉ ts) : startH ts a o a = o := (if_neg h).trans (if_pos rfl)
theorem startH_inv {ts : List Addr} {a b : Addr} {o : Option HO} {u : HO} (h : startH ts a o b = some u) : (b ∈ ts ∧ u = .tbl #[]) ∨ (b ∉ ts ∧ b = a ∧ o = some u) := by
  unfold startH at h
  by_cases h1 : b ∈ ts
  · rw [if_pos h1] at h
    exact .inl ⟨h1, (Option.some.inj h).symm⟩
  · rw [if_neg h1] at h
    by_cases h2 : b = a
    · rw [if_pos h2] at h
      exact .inr ⟨h1, h2, h⟩
    · rw [if_neg h2] at h
      cases h
abbrev tabO (more : Array Value) : Obj := { cls := .none, data := .fields more }
theorem law_callQT {P : Program} {w : World} {K : PySem.W.Frag} {mg mb : Str → Option Value} {k : Nat} {fa a : Addr} {cs : List (Addr × Addr)} {fd : FuncData} {x : Str} {sp : Sp} {z : Shared} {vs : List Value} {ns : List Int}
    (KX : K.In z.heap) (G : z.heap.Ns mainGlobals mg) (B : z.heap.Ns builtinsNs mb) (B2 : ∀ x : Str, x ≠ "__name__" → mb x = bootBuiltins x) (L : z.heap.NoLimit) (G0 : z.gens = #[])
    (hT : ∀ p ∈ cs, z.heap.get? p.2 = some (tabO #[])) (nT : ∀ p ∈ cs, K.lookup p.2 = none) (C : ∀ p ∈ cs, PySem.W.CodeHd z.heap p.1 p.2)
    (M : ∃ (bm : Addr) (ob : Obj), mg "__builtins__" = some (.ref bm) ∧ bm ≠ builtinsNs ∧ z.heap.get? bm = some ob ∧ ob.cls = .type "module" ∧ ob.dict = some builtinsNs ∧ ob.data = .plain)
    (ha : z.heap.get? a = some { cls := .type "list", data := .seq vs.toArray }) (hi : IntsAre vs ns) (hl : ns.length ≤ sizeLine) (hr : Room k callerA)
    (F : ∀ base : Heap, K.In base → base.Ns mainGlobals mg → (∀ p ∈ cs, TabB base mg p.1 p.2) → FnQ P w K mg base CX0 k fa fd [x] sp) (hb : ∀ (s : Shared) (u : Value), BindsTo s fd ⟨[u], []⟩ [(x, u)])
    (hsp : ∀ H : Hp, (∀ p ∈ cs, H p.2 = some (.tbl #[])) → SqL K H a (ns.map V.int) → sp [.ref a] H (fun v _ => v = .bl true) fun _ _ _ => False) :
    codeAny (model P w) callerA (.call (.ref fa) ⟨[.ref a], []⟩) (fun r s' => r = .ok (.ret (.bool true)) ∧ OldK z.heap s'.heap ∧ s'.os = z.os ∧ AllBare s'.gens) z := by
  generalize hts : cs.map (·.2) = ts
  have inT : ∀ p ∈ cs, p.2 ∈ ts := fun p hp => by rw [← hts]; exact List.mem_map.mpr ⟨p, hp, rfl⟩
  have ofT : ∀ b ∈ ts, ∃ p ∈ cs, p.2 = b := fun b hb => by rw [← hts] at hb; exact List.mem_map.mp hb
  have atT : ∀ b ∈ ts, z.heap.get? b = some (tabO #[]) := fun b hb => by obtain ⟨p, hp, e⟩ := ofT b hb; rw [← e]; exact hT p hp
  have rv := vals_ints hi
  have lenV := hi.length
  have aT : a ∉ ts := fun q => by
    have e := ha.symm.trans (atT a q)
    cases e
  -- in both ways the script may stand: written, or tracked
  have core : ∀ o : Option HO, (o = none ∨ o = some (.frz { cls := .type "list", data := .seq vs.toArray } (.lst (ns.map V.int)))) → (o ≠ none → K.lookup a = none) → SqL K (startH ts a o) a (ns.map V.int) →
      codeAny (model P w) callerA (.call (.ref fa) ⟨[.ref a], []⟩) (fun r s' => r = .ok (.ret (.bool true)) ∧ OldK z.heap s'.heap ∧ s'.os = z.os ∧ AllBare s'.gens) z := by
    intro o ho hK hS
    generalize hH : startH ts a o = H at hS
    have tab : ∀ b ∈ ts, H b = some (.tbl #[]) := fun b q => by rw [← hH]; exact startH_tab q
    have inv : ∀ {b : Addr} {u : HO}, H b = some u → (b ∈ ts ∧ u = .tbl #[]) ∨ (b ∉ ts ∧ b = a ∧ u = .frz { cls := .type "list", data := .seq vs.toArray } (.lst (ns.map V.int)) ∧ K.lookup a = none) := fun {b u} e => by
      rw [← hH] at e
      rcases startH_inv e with q | ⟨q1, q2, q3⟩
      · exact .inl q
      · rcases ho with e1 | e1
        · rw [e1] at q3; cases q3
        · rw [e1] at q3
          exact .inr ⟨q1, q2, (Option.some.inj q3).symm, hK (by rw [e1]; exact fun q => nomatch q)⟩
    have hok : HOk P w H z.heap := fun b u e => by
      rcases inv e with ⟨q, rfl⟩ | ⟨_, rfl, rfl, _⟩
      · exact atT b q
      · exact ⟨ha, by rw [List.length_map]; exact hl, vs, _, rv, ha⟩
    -- what is neither a list nor an empty table is seen in the base
    have seen : ∀ {b : Addr} {ob : Obj}, z.heap.get? b = some ob → (∀ us n, ob.data ≠ .seq us n) → ob.data ≠ .fields #[] → (hidT z.heap H).get? b = some ob := fun {b ob} e h1 h2 => hidT_get e (by
      cases q : H b with
      | none => rfl
      | some u =>
        rcases inv q with ⟨q1, _⟩ | ⟨_, rfl, _, _⟩
        · rw [atT b q1] at e
          cases e
          exact absurd rfl h2
        · rw [ha] at e
          cases e
          exact absurd rfl (h1 _ _))
    have seenD : ∀ {b : Addr} {m : Str → Option Value}, z.heap.Ns b m → (hidT z.heap H).Ns b m := fun {b m} ⟨ob, es, ep, e, d, r⟩ =>
      ⟨ob, es, ep, seen e (fun us n q => by rw [d] at q; cases q) (fun q => by rw [d] at q; cases q), d, r⟩
    have KB : K.In (hidT z.heap H) := fun b ob e => hidT_get (KX b ob e) (by
      cases q : H b with
      | none => rfl
      | some u =>
        rcases inv q with ⟨q1, _⟩ | ⟨_, rfl, _, q2⟩
        · obtain ⟨p, hp, ep⟩ := ofT b q1
          rw [← ep, nT p hp] at e
          cases e
        · rw [q2] at e
          cases e)
    have MB : Mod K mg (hidT z.heap H) := ⟨KB, seenD G, ⟨mb, seenD B, B2⟩, let ⟨mc, h1, h2⟩ := L; ⟨mc, seenD h1, h2⟩⟩
    have TB : ∀ p ∈ cs, TabB (hidT z.heap H) mg p.1 p.2 := fun p hp => by
      refine ⟨?_, ?_, fun q => ?_⟩
      · obtain ⟨ob, us, file, tf, flags, tg, inF, text, tt, e1, r1, r2, r3, rest⟩ := C p hp
        refine ⟨ob, us, file, tf, flags, tg, inF, text, tt, seen e1 (fun us' n q => by rw [r2] at q; cases q) (fun q => ?_), r1, r2, r3, rest⟩
        rw [r2] at q
        cases q
        cases r3
      · obtain ⟨bm, ob, b1, b2, b3, b4, b5, b6⟩ := M
        refine ⟨bm, ob, b1, b2, fun q => ?_, fun q => ?_, seen b3 (fun us n q => by rw [b6] at q; cases q) (fun q => by rw [b6] at q; cases q), b4, b5, b6⟩
        · obtain ⟨ob', es, ep, e, hd, _⟩ := G
          rw [q, e] at b3
          cases b3
          rw [hd] at b6
          cases b6
        · rw [q, hT p hp] at b3
          cases b3
          cases b6
      · obtain ⟨ob, es, ep, e, hd, _⟩ := G
        rw [q, hT p hp] at e
        cases e
        cases hd
    have nofr : ∀ b, b ∉ frs ([] : List Env) := fun b q => nomatch q
    have e0 : Env0 P w K mg (hidT z.heap H) callerA [] z H := ⟨rfl, MB, fun b ob e => of_hidT e, Nat.le_of_eq (hidT_size _ _), trivial, fun b q => absurd q (nofr b), hok, .of_eq G0⟩
    refine codeAny_mono ((F _ KB (seenD G) TB).run callerA [] z H ⟨[.ref a], []⟩ [.ref a] [.ref a] _ _ rfl hr e0 (hb z (.ref a)) (.cons rfl .nil) (hsp H (fun p hp => tab _ (inT p hp)) hS)) fun r s' h => ?_
    match r, h with
    | .error e, h => exact False.elim h
    | .ok (.ret u), h =>
      obtain ⟨v, H', os, bare, un, hok', r', q⟩ := h
      have q' : v = .bl true := q
      subst q'
      obtain rfl : u = Value.bool true := r'
      have kept : ∀ b ob, b ∉ ts → z.heap.get? b = some ob → s'.heap.get? b = some ob := fun b ob nb e => by
        cases q : H b with
        | none => exact un.keep b ob e q (nofr b) (fun q => nomatch q)
        | some u =>
          rcases inv q with ⟨q1, _⟩ | ⟨_, _, rfl, _⟩
          · exact absurd q1 nb
          · have e1 := (hok b _ q).1
            have e2 := (hok' b _ (un.frzs b _ _ q)).1
            exact e2.trans (e1.symm.trans e)
      have more : ∀ b ∈ ts, ∃ m : Array Value, s'.heap.get? b = some (tabO m) := fun b q => by
        obtain ⟨m, e⟩ := un.tbls b #[] (tab b q)
        exact ⟨_, hok' b _ e⟩
      refine ⟨rfl, ⟨fun b ob e => ?_, fun b ob e => ?_⟩, os, bare⟩
      · by_cases hbt : b ∈ ts
        · obtain ⟨p, hp, rfl⟩ := ofT b hbt
          obtain ⟨m, e2⟩ := more _ hbt
          rw [hT p hp] at e
          cases e
          exact .inr (.inl ⟨((C p hp).tab (hT p hp)).isCodeTable, rfl, #[], m, rfl, by rw [Array.empty_append]; exact e2⟩)
        · exact .inl (kept b ob hbt e)
      · by_cases hbt : b ∈ ts
        · exact (more b hbt).elim fun m e2 => ⟨_, e2⟩
        · exact ⟨ob, kept b ob hbt e⟩
  cases hk : K.lookup a with
  | some ob =>
    have e := KX a ob hk
    rw [ha] at e
    cases e
    exact core none (.inl rfl) (fun q => absurd rfl q) (.inr ⟨_, vs.toArray, _, hk, rfl, rfl, rfl, by rw [List.size_toArray, lenV]; exact hl, by simpa using rv⟩)
  | none => exact core _ (.inr rfl) (fun _ => hk) (.inl (.inr ⟨_, startH_at aT⟩))
/-- what the head leaves, from such a promise -/
theorem walk_ofQT {l : PySem.W.OpenLaw} {n k : Nat} {q : Program} {loose : List Str} {XP : (Str → Option Value) → Heap → Prop} {YP : World → Heap → Prop} {d : DefRec} {K : Params → PySem.W.Frag} {x : Str}
    (hn : l.most = some n) (hn2 : n ≤ sizeLine) (hdf : d.params.defaults = []) (hr : Room k callerA) (hY : ∀ (w : World) (h : Heap), YP w h → (K w.params).In h)
    (F : ∀ (w : World) (mg : Str → Option Value) (fa : Addr) (h : Heap), YP w h → (K w.params).In h → h.Ns mainGlobals mg → mg d.name = some (.ref fa) →
      ∃ (fd : FuncData) (cs : List (Addr × Addr)) (sp : Sp), (∀ p ∈ cs, h.get? p.2 = some (tabO #[])) ∧ (∀ p ∈ cs, (K w.params).lookup p.2 = none) ∧ (∀ p ∈ cs, PySem.W.CodeHd h p.1 p.2) ∧ (∀ (s : Shared) (u : Value), BindsTo s fd ⟨[u], []⟩ [(x, u)]) ∧
        (∀ (H : Hp) (a : Addr) (ns : List Int), ns.length ≤ n → (∀ p ∈ cs, H p.2 = some (.tbl #[])) → SqL (K w.params) H a (ns.map V.int) → sp [.ref a] H (fun v _ => v = .bl true) fun _ _ _ => False) ∧
        ∀ base : Heap, (K w.params).In base → base.Ns mainGlobals mg → (∀ p ∈ cs, TabB base mg p.1 p.2) → FnQ l.prog w (K w.params) mg base CX0 k fa fd [x] sp) :
    PySem.W.WalkO q loose XP YP l.row.toRowW d [] (fun f vs => PySem.call f vs) := by
  refine Att.attach_call hn hdf fun w _ z mg _ fa _ _ _ _ a vs ns G Y _ _ _ hmg hobj hints hlen hg => ?_
  have KX := hY w _ Y
  obtain ⟨fd, cs, sp, hT, nT, C, hb, hsp, hF⟩ := F w mg fa _ Y KX G.T.g hmg
  exact law_callQT KX G.T.g G.T.b G.T.builtins G.T.nolimit hg hT nT C G.T.bmain hobj hints (Nat.le_trans hlen hn2) hr hF hb fun H hH hS => hsp H a ns hlen hH hS
end Gr

set_option Elab.async false
set_option maxRecDepth 100000
set_option maxHeartbeats 4000000
set_option linter.all false
/-! Ours: the law. -/
namespace KP
open PySem PySem.Spec PyProof.Rows L2 Gr GxR
theorem sql_stay {K : PySem.W.Frag} {H H' : Hp} {a : Addr} {xs : List V} (s : Stay H H') (h : SqL K H a xs) : SqL K H' a xs := by
  rcases h with (h | ⟨o, h⟩) | h
  · exact .inl (.inl (s _ _ h fun _ q => nomatch q))
  · exact .inl (.inr ⟨o, s _ _ h fun _ q => nomatch q⟩)
  · exact .inr h
def spLaw {K : PySem.W.Frag} {mg : Str → Option Value} (T : D K mg) : Sp := fun vs H Q _ => ∃ (a : Addr) (ns : List Int), vs = [.ref a] ∧ SqL K H a (ns.map V.int) ∧ ns.length ≤ 63 ∧ Tb (tabs T) H ∧ ∀ H', Q (.bl true) H'
section
variable {P : Program} {w : World} {K : PySem.W.Frag} {mg : Str → Option Value} {base : Heap} {C : Addr}
theorem sc_law : FnScope ["_law_script", "_law_turn"] ["_law_script"] (defScope s_law) := ⟨rfl, rfl, rfl, by decide +kernel, rfl, by decide +kernel, by decide +kernel⟩
theorem ok_law (T : D K mg) (TB : Tabs base T) (hM : SysM K) : FnQ P w K mg base CX0 12 T.f_law T.d_law ["_law_script"] (spLaw T) := by
  refine funQ T.U_law sc_law (fun vs H Q E h => ?_) (fun cdv A outer s H vs Q E hgu hr h => ?_)
  · obtain ⟨a, ns, rfl, _⟩ := h
    rfl
  · obtain ⟨a, ns, rfl, hS, hl, hT, k⟩ := h
    have nd := sc_law.nd
    have GR : FnQ P w K mg base CX0 11 T.f_l_right T.d_l_right ["_law_well_here", "_law_is_small"] (spRight2 T) := ok_right T TB hM
    refine ⟨_, pss_cons (ps_for PassesOwn.never rfl (pi_range1 rfl T.range (pa_cons (pe_callB (call_max2 rfl) (by rfl) T.max boot_max (pa_cons pe_int (pa_cons (pe_callB (call_min2 rfl) (by rfl) T.min boot_min (pa_cons (pe_callB call_len_seq (by rfl) T.len PySem.boot_len (pa_cons (pv 0) pa_nil)) (pa_cons pe_int pa_nil))) pa_nil))) pa_nil)) (pg_name (i := 1) nd rfl (.inl rfl))
        (pss_one (ps_if (pt_not (pt_val (pe_callQ hgu GR hr rfl T.g_l_right T.U_l_right.kp T.b_l_right .nil pass0 (pa_cons (pe_call (ok_l_well T) (hr.mono (by decide)) rfl T.g_l_well T.U_l_well.kp T.b_l_well .nil pass0 (pa_cons (pv 0) (pa_cons (pv 1) pa_nil))) (pa_cons (pe_cmpR op_ne (pv 1) pe_int (nomark _)) pa_nil)))))
          (pss_one (ps_ret pe_bl))
          (pss_nil))))
      (pss_one (ps_ret pe_bl)), ?_⟩
    refine ⟨_, rfl, a, _, rfl, .inl hS, _, _, rfl, _, _, rfl, _, rfl, ?_, ?_, for_range (n := _) (fun n σ H2 => Stay H H2 ∧ Tb (tabs T) H2 ∧ ∃ v1 : Option V, σ = [some (.ref a), v1]) ⟨fun _ _ e _ => e, hT, _, rfl⟩ ?_ ?_⟩
    · split <;> split <;> omega
    · split <;> split <;> omega
    · rintro n σ H2 hn ⟨s2, t2, v1, rfl⟩
      refine gn ?_
      dsimp only [List.set]
      have hn6 : n < 63 := by
        refine Nat.lt_of_lt_of_le hn ?_
        split <;> split <;> omega
      refine ⟨_, rfl, _, rfl, a, ns, (n : Int), ?_, sql_stay s2 hS, by omega, by omega, fun q H3 hq hw s3 => ?_⟩
      · rw [Int.zero_add]
        rfl
      · refine ⟨_, rfl, rfl, q, _, rfl, hw, t2.same s3, fun H4 mv => ⟨_, rfl, iteF (next_of ⟨fun b o e m => ?_, mv.2.2, _, rfl⟩)⟩⟩
        have e2 := s2 b o e m
        exact mv.1 b o (s3 b o e2) (ne_of_none e2 hq) m
    · rintro σ H2 ⟨s2, t2, v1, rfl⟩
      exact k _
end
end KP

set_option Elab.async false
set_option maxRecDepth 100000
set_option maxHeartbeats 8000000
set_option linter.all false
namespace KP
open PySem PySem.Spec PyProof.Rows L2 Gr GxR PySem.W
/-! what is asked of the written part -/
def hasRef : Option Value → Addr → Bool
  | some (.ref a), q => a == q
  | _, _ => false
def isStrV : Value → Bool
  | .str _ _ => true
  | _ => false
def isIntV : Value → Bool
  | .int _ _ => true
  | _ => false
def isBoolV : Value → Bool
  | .bool _ => true
  | _ => false
def hdB (K : Frag) (c q : Addr) : Bool := match K.lookup c with
  | some ⟨.type n, _, .fields vs, _⟩ => n == "code" && (hasRef vs[11]? q && (isStrV (vs.getD 18 .none) && (isIntV (vs.getD 7 .none) && (isBoolV (vs.getD 9 .none) && isIntV (vs.getD 10 .none)))))
  | _ => false
theorem hdB_ok {K : Frag} {h : Heap} {c q : Addr} (X : K.In h) (n : c ≠ q) (e : hdB K c q = true) : CodeHd h c q := by
  unfold hdB at e
  split at e
  · rename_i nm od vs sl hk
    simp only [Bool.and_eq_true, beq_iff_eq] at e
    obtain ⟨rfl, e1, e2, e3, e4, e5⟩ := e
    have r : vs[11]? = some (.ref q) := by
      cases hv : vs[11]? with
      | none => rw [hv] at e1; cases e1
      | some v =>
        rw [hv] at e1
        cases v with
        | ref a =>
          have : (a == q) = true := e1
          rw [beq_iff_eq.mp this]
        | _ => cases e1
    have r2 : vs.getD 11 .none = .ref q := by rw [Array.getD_eq_getD_getElem?, r]; rfl
    generalize h18 : vs.getD 18 .none = v18 at e2
    generalize h7 : vs.getD 7 .none = v7 at e3
    generalize h9 : vs.getD 9 .none = v9 at e4
    generalize h10 : vs.getD 10 .none = v10 at e5
    cases v18 <;> first | cases e2 | skip
    cases v7 <;> first | cases e3 | skip
    cases v9 <;> first | cases e4 | skip
    cases v10 <;> first | cases e5 | skip
    exact ⟨_, vs, _, _, _, _, _, _, _, X _ _ hk, rfl, rfl, r, r2, h18, h7, h9, h10, n⟩
  · cases e
theorem rangeOf {k : Nat} {t : Nat → Bool} (h : (List.range k).all t = true) {n : Nat} (hn : n < k) : t n = true := List.all_eq_true.mp h n (List.mem_range.mpr hn)
def bis : List Str := ("abs" : Str) :: ("all" : Str) :: ("bool" : Str) :: ("divmod" : Str) :: ("enumerate" : Str) :: ("int" : Str) :: ("isinstance" : Str) :: ("len" : Str) :: ("list" : Str) :: ("max" : Str) :: ("min" : Str) :: ("range" : Str) :: ("repr" : Str) :: ("sum" : Str) :: ("tuple" : Str) :: []
def chkN (K : Frag) : Bool := (List.range 15).all fun n => decide (nsIn K mainGlobals (bis.getD n "") = some none)
theorem nameN {K : Frag} {h : Heap} {mg : Str → Option Value} (X : K.In h) (G : h.Ns mainGlobals mg) (c : chkN K = true) (n : Nat) (hn : n < 15) : mg (bis.getD n "") = none := mg_none_of X G (of_decide_eq_true (rangeOf c hn))
def fnm : List Str := ("opens" : Str) :: ("next_open" : Str) :: ("next_ask" : Str) :: ("soonest_asks" : Str) :: ("most_between" : Str) :: ("tidied_pairs" : Str) :: ("is_whole" : Str) :: ("is_between" : Str) :: ("is_tuple" : Str) :: ("is_limit" : Str) :: ("are_limits" : Str) :: ("are_hours" : Str) :: ("are_rules" : Str) :: ("check_limits" : Str) :: ("check_rules" : Str) :: ("is_stricter" : Str) :: ("loose_row" : Str) :: ("row_while_closed" : Str) :: ("row_of_too_many" : Str) :: ("are_alike_limits" : Str) :: ("are_alike_rules" : Str) :: ("_law_well" : Str) :: ("_law_pick" : Str) :: ("_law_one" : Str) :: ("_law_open" : Str) :: ("_law_wrong_at" : Str) :: ("_law_soonest" : Str) :: ("_law_some_limits" : Str) :: ("_law_some_hours" : Str) :: ("_law_line_formed" : Str) :: ("_law_lets" : Str) :: ("_law_by_walk" : Str) :: ("_law_below" : Str) :: ("_law_by_most" : Str) :: ("_law_other" : Str) :: ("_law_pair_right" : Str) :: ("_law_right" : Str) :: ("law" : Str) :: []
def fad : List Addr := [50, 57, 62, 69, 76, 83, 141, 148, 155, 162, 169, 176, 183, 190, 197, 204, 211, 218, 225, 232, 239, 246, 253, 260, 267, 272, 279, 284, 289, 296, 301, 306, 311, 318, 325, 332, 339, 346]
def chkF (K : Frag) : Bool := (List.range 38).all fun n => decide (nsIn K mainGlobals (fnm.getD n "") = some (some (.ref (fad.getD n 0)))) && keepIn K (.ref (fad.getD n 0))
theorem nameF {K : Frag} {h : Heap} {mg : Str → Option Value} (X : K.In h) (G : h.Ns mainGlobals mg) (c : chkF K = true) (n : Nat) (hn : n < 38) : mg (fnm.getD n "") = some (.ref (fad.getD n 0)) ∧ keepIn K (.ref (fad.getD n 0)) = true := by
  have q := rangeOf c hn
  simp only [Bool.and_eq_true, decide_eq_true_eq] at q
  exact ⟨mg_of X G q.1, q.2⟩
def chkS (K : Frag) : Bool := match K.lookup sysModules with
  | some ⟨_, _, .dict _ _, _⟩ => true
  | _ => false
theorem sysM_of {K : Frag} (h : chkS K = true) : SysM K := by
  unfold chkS at h
  split at h
  · rename_i es n _ q
    exact ⟨_, es, n, q, rfl⟩
  · cases h
def recHd (K : Frag) (a g : Addr) : Bool := match recIn K a "property" with
  | some (.ref x :: _) => x == g
  | _ => false
theorem recHd_ok {K : Frag} {a g : Addr} (h : recHd K a g = true) : ∃ rest, recIn K a "property" = some (.ref g :: rest) := by
  unfold recHd at h
  split at h
  · rename_i x r q
    exact ⟨r, by rw [q, beq_iff_eq.mp h]⟩
  · cases h
/-- defaults: the tuple at the place holds the int -/
def chkDf (K : Frag) (a : Addr) (m : Int) : Bool := match K.lookup a with
  | some ⟨_, _, .seq its _, _⟩ => (match its.toList with | [.int i _] => i == m | _ => false)
  | _ => false
theorem fun_mkP {K K0 : Frag} {x qual : Str} {m : Int} {st : Stmt} {f a : Addr} {oc : Value} {od an : Option Addr} {osl : Array (Option Value)} {kV doc pm cdv ct : Value} (hK : ∀ b, b ≠ sysModules → K.lookup b = K0.lookup b) (ne : f ≠ sysModules)
    (l : K0.lookup f = some ⟨oc, od, .func (fnOf x qual (defArgs st) (defBody st) (defScope st) (.ref a) kV doc pm an cdv ct), osl⟩) (c : codeIn K cdv qual = true) (q : chkDf K a m = true) : ∃ fd, keepIn K (.ref f) = true → FunD K x qual (defArgs st) (defBody st) (defScope st) [.int m] [] f fd := by
  refine ⟨_, fun k => ⟨⟨oc, od, .ref a, kV, doc, pm, an, cdv, ct, osl, rfl, (hK _ ne).trans l, c, .inr ⟨List.cons_ne_nil _ _, ?_⟩, .inl rfl⟩, k⟩⟩
  unfold chkDf at q
  split at q
  · rename_i c0 d0 its n0 sl0 e
    split at q
    · rename_i i t hi
      refine ⟨a, _, its.toList, n0, rfl, e, by simp, ?_⟩
      rw [hi, beq_iff_eq.mp q]
      exact .cons ⟨t, rfl⟩ .nil
    · cases q
  · cases q
def chkKw (K : Frag) (D : Addr) (x : Str) (n : Int) : Bool := match nsIn K D x with
  | some (some (.int m _)) => m == n
  | _ => false
theorem fun_mkK {K K0 : Frag} {x qual y : Str} {n : Int} {st : Stmt} {f D : Addr} {oc : Value} {od an : Option Addr} {osl : Array (Option Value)} {doc pm cdv ct : Value} (hK : ∀ b, b ≠ sysModules → K.lookup b = K0.lookup b) (ne : f ≠ sysModules)
    (l : K0.lookup f = some ⟨oc, od, .func (fnOf x qual (defArgs st) (defBody st) (defScope st) .none (.ref D) doc pm an cdv ct), osl⟩) (c : codeIn K cdv qual = true) (q : chkKw K D y n = true) : ∃ fd, keepIn K (.ref f) = true → FunD K x qual (defArgs st) (defBody st) (defScope st) [] [(y, .int n)] f fd := by
  refine ⟨_, fun k => ⟨⟨oc, od, .none, .ref D, doc, pm, an, cdv, ct, osl, rfl, (hK _ ne).trans l, c, .inl ⟨rfl, rfl⟩, .inr ⟨D, rfl, fun z hz => ?_⟩⟩, k⟩⟩
  rw [List.mem_singleton.mp hz]
  unfold chkKw at q
  split at q
  · rename_i m t e
    exact ⟨_, e, t, by rw [beq_iff_eq.mp q]⟩
  · cases q
theorem fun_mkS {K K0 : Frag} {x qual : Str} {st : Stmt} {f : Addr} {oc : Value} {od an : Option Addr} {osl : Array (Option Value)} {kV doc pm cdv ct : Value} (hK : ∀ b, b ≠ sysModules → K.lookup b = K0.lookup b) (ne : f ≠ sysModules)
    (l : K0.lookup f = some ⟨oc, od, .func (fnOf x qual (defArgs st) (defBody st) (defScope st) .none kV doc pm an cdv ct), osl⟩) (c : codeIn K cdv qual = true) : ∃ fd, keepIn K (.ref f) = true → Fun K x qual st f fd :=
  ⟨_, fun k => fun_mk ((hK _ ne).trans l) c k⟩
theorem fun_mkC {K K0 : Frag} {x qual : Str} {st : Stmt} {f c : Addr} {oc : Value} {od an : Option Addr} {osl : Array (Option Value)} {kV doc pm ct : Value} (hK : ∀ b, b ≠ sysModules → K.lookup b = K0.lookup b) (ne : f ≠ sysModules)
    (l : K0.lookup f = some ⟨oc, od, .func (fnOf x qual (defArgs st) (defBody st) (defScope st) .none kV doc pm an (.ref c) ct), osl⟩) (cc : codeIn K (.ref c) qual = true) : ∃ fd, keepIn K (.ref f) = true → FunC K x qual st f fd c :=
  ⟨_, fun k => ⟨⟨oc, od, kV, doc, pm, an, ct, osl, rfl, (hK _ ne).trans l, cc⟩, k⟩⟩
def chkInt (K : Frag) (x : Str) (n : Int) : Bool := match nsIn K mainGlobals x with
  | some (some (.int m _)) => m == n
  | _ => false
def chkStr (K : Frag) (x : Str) (n : Str) : Bool := match nsIn K mainGlobals x with
  | some (some (.str m _)) => m == n
  | _ => false
theorem int_of {K : Frag} {x : Str} {n : Int} (h : chkInt K x n = true) : ∃ t, nsIn K mainGlobals x = some (some (.int n t)) := by
  unfold chkInt at h
  split at h
  · rename_i m t q
    exact ⟨t, by rw [q, beq_iff_eq.mp h]⟩
  · cases h
theorem str_of {K : Frag} {x : Str} {n : Str} (h : chkStr K x n = true) : ∃ t, nsIn K mainGlobals x = some (some (.str n t)) := by
  unfold chkStr at h
  split at h
  · rename_i m t q
    exact ⟨t, by rw [q, beq_iff_eq.mp h]⟩
  · cases h
/-- values that are these constants -/
def valsB : List Value → List L2.V → Bool
  | [], [] => true
  | .int i _ :: l, .int j :: m => i == j && valsB l m
  | .str i _ :: l, .str j :: m => i == j && valsB l m
  | _, _ => false
theorem valsB_ok : ∀ {l : List Value} {m : List L2.V}, valsB l m = true → L2.Vals m l
  | [], [], _ => .nil
  | .int i t :: l, .int j :: m, h => by
    have h : (i == j && valsB l m) = true := h
    rw [Bool.and_eq_true] at h
    exact .cons ⟨t, by rw [beq_iff_eq.mp h.1]⟩ (valsB_ok h.2)
  | .str i t :: l, .str j :: m, h => by
    have h : (i == j && valsB l m) = true := h
    rw [Bool.and_eq_true] at h
    exact .cons ⟨t, by rw [beq_iff_eq.mp h.1]⟩ (valsB_ok h.2)
theorem valsB_len : ∀ {l : List Value} {m : List L2.V}, L2.Vals m l → l.length = m.length
  | _, _, .nil => rfl
  | _, _, .cons _ h => by rw [List.length_cons, List.length_cons, valsB_len h]
/-- the global x is a tuple of the written part, of these constants -/
def chkTup (K : Frag) (x : Str) (m : List L2.V) : Bool := match nsIn K mainGlobals x with
  | some (some (.ref a)) => (match K.lookup a with
    | some o => (match o.cls with | .type c => decide (c = "tuple") | _ => false) && (match o.data with | .seq its _ => valsB its.toList m && decide (m.length ≤ 1000) | _ => false)
    | none => false)
  | _ => false
theorem tup_of {K : Frag} {x : Str} {m : List L2.V} (h : chkTup K x m = true) : ∃ a, nsIn K mainGlobals x = some (some (.ref a)) ∧ ∃ (o : Obj) (its : Array Value) (n : Nat), K.lookup a = some o ∧ o.cls = .type "tuple" ∧ o.data = .seq its n ∧ its.size ≤ sizeLine ∧ L2.Vals m its.toList := by
  unfold chkTup at h
  split at h
  · rename_i _ a q
    refine ⟨a, q, ?_⟩
    split at h
    · rename_i o ho
      rw [Bool.and_eq_true] at h
      obtain ⟨h1, h2⟩ := h
      split at h1
      · rename_i c hc
        have h1 := of_decide_eq_true h1
        split at h2
        · rename_i its n hd
          rw [Bool.and_eq_true] at h2
          have v := valsB_ok h2.1
          have h3 := of_decide_eq_true h2.2
          refine ⟨o, its, n, ho, by rw [hc, h1], hd, ?_, v⟩
          have e : its.size = m.length := by rw [← Array.length_toList, valsB_len v]
          rw [e, sizeLine_eq]
          omega
        · cases h2
      · cases h1
    · cases h
  · cases h
/-- all that is asked of the written part -/
structure Facts (K : Frag) : Prop where
  n : chkN K = true
  f : chkF K = true
  s : chkS K = true
  k0 : chkTup K "ALWAYS" [L2.V.int 1] = true
  k1 : chkInt K "MOST_ASKS" 6 = true
  k2 : chkInt K "WIDEST" 12 = true
  k3 : chkInt K "MOST_PAIRS" 4 = true
  i0 : nsIn K mainGlobals "lcm" = some (some (.builtin "math.lcm"))
  d0 : ∃ fd, keepIn K (.ref 50) = true → Fun K "opens" "opens" s_opens 50 fd
  d1 : ∃ fd, keepIn K (.ref 57) = true → Fun K "next_open" "next_open" s_next_open 57 fd
  d2 : ∃ fd, keepIn K (.ref 62) = true → Fun K "next_ask" "next_ask" s_next_ask 62 fd
  d3 : ∃ fd, keepIn K (.ref 69) = true → Fun K "soonest_asks" "soonest_asks" s_soonest_asks 69 fd
  d4 : ∃ fd, keepIn K (.ref 76) = true → Fun K "most_between" "most_between" s_most_between 76 fd
  d5 : ∃ fd, keepIn K (.ref 83) = true → Fun K "tidied_pairs" "tidied_pairs" s_tidied_pairs 83 fd
  d6 : ∃ fd, keepIn K (.ref 141) = true → Fun K "is_whole" "is_whole" s_is_whole 141 fd
  d7 : ∃ fd, keepIn K (.ref 148) = true → Fun K "is_between" "is_between" s_is_between 148 fd
  d8 : ∃ fd, keepIn K (.ref 155) = true → Fun K "is_tuple" "is_tuple" s_is_tuple 155 fd
  d9 : ∃ fd, keepIn K (.ref 162) = true → Fun K "is_limit" "is_limit" s_is_limit 162 fd
  d10 : ∃ fd, keepIn K (.ref 169) = true → FunC K "are_limits" "are_limits" s_are_limits 169 fd 168
  t10 : hdB K 168 164 = true
  o10 : (K.lookup 164).isNone = true
  d11 : ∃ fd, keepIn K (.ref 176) = true → FunC K "are_hours" "are_hours" s_are_hours 176 fd 175
  t11 : hdB K 175 171 = true
  o11 : (K.lookup 171).isNone = true
  d12 : ∃ fd, keepIn K (.ref 183) = true → Fun K "are_rules" "are_rules" s_are_rules 183 fd
  d13 : ∃ fd, keepIn K (.ref 190) = true → Fun K "check_limits" "check_limits" s_check_limits 190 fd
  d14 : ∃ fd, keepIn K (.ref 197) = true → Fun K "check_rules" "check_rules" s_check_rules 197 fd
  d15 : ∃ fd, keepIn K (.ref 204) = true → Fun K "is_stricter" "is_stricter" s_is_stricter 204 fd
  d16 : ∃ fd, keepIn K (.ref 211) = true → Fun K "loose_row" "loose_row" s_loose_row 211 fd
  d17 : ∃ fd, keepIn K (.ref 218) = true → Fun K "row_while_closed" "row_while_closed" s_row_while_closed 218 fd
  d18 : ∃ fd, keepIn K (.ref 225) = true → Fun K "row_of_too_many" "row_of_too_many" s_row_of_too_many 225 fd
  d19 : ∃ fd, keepIn K (.ref 232) = true → Fun K "are_alike_limits" "are_alike_limits" s_are_alike_limits 232 fd
  d20 : ∃ fd, keepIn K (.ref 239) = true → Fun K "are_alike_rules" "are_alike_rules" s_are_alike_rules 239 fd
  d21 : ∃ fd, keepIn K (.ref 246) = true → Fun K "_law_well" "_law_well" s_l_well 246 fd
  d22 : ∃ fd, keepIn K (.ref 253) = true → Fun K "_law_pick" "_law_pick" s_l_pick 253 fd
  d23 : ∃ fd, keepIn K (.ref 260) = true → Fun K "_law_one" "_law_one" s_l_one 260 fd
  d24 : ∃ fd, keepIn K (.ref 267) = true → Fun K "_law_open" "_law_open" s_l_open 267 fd
  d25 : ∃ fd, keepIn K (.ref 272) = true → Fun K "_law_wrong_at" "_law_wrong_at" s_l_wrong_at 272 fd
  d26 : ∃ fd, keepIn K (.ref 279) = true → Fun K "_law_soonest" "_law_soonest" s_l_soonest 279 fd
  d27 : ∃ fd, keepIn K (.ref 284) = true → Fun K "_law_some_limits" "_law_some_limits" s_l_some_limits 284 fd
  d28 : ∃ fd, keepIn K (.ref 289) = true → Fun K "_law_some_hours" "_law_some_hours" s_l_some_hours 289 fd
  d29 : ∃ fd, keepIn K (.ref 296) = true → Fun K "_law_line_formed" "_law_line_formed" s_l_line_formed 296 fd
  d30 : ∃ fd, keepIn K (.ref 301) = true → Fun K "_law_lets" "_law_lets" s_l_lets 301 fd
  d31 : ∃ fd, keepIn K (.ref 306) = true → Fun K "_law_by_walk" "_law_by_walk" s_l_by_walk 306 fd
  d32 : ∃ fd, keepIn K (.ref 311) = true → Fun K "_law_below" "_law_below" s_l_below 311 fd
  d33 : ∃ fd, keepIn K (.ref 318) = true → Fun K "_law_by_most" "_law_by_most" s_l_by_most 318 fd
  d34 : ∃ fd, keepIn K (.ref 325) = true → Fun K "_law_other" "_law_other" s_l_other 325 fd
  d35 : ∃ fd, keepIn K (.ref 332) = true → Fun K "_law_pair_right" "_law_pair_right" s_l_pair_right 332 fd
  d36 : ∃ fd, keepIn K (.ref 339) = true → Fun K "_law_right" "_law_right" s_l_right 339 fd
  d37 : ∃ fd, keepIn K (.ref 346) = true → Fun K "law" "law" s_law 346 fd
theorem all_ok {P : Program} {w : World} {K : Frag} {h : Heap} {mg : Str → Option Value} {fa : Addr} (Z : Facts K) (X : K.In h) (G : h.Ns mainGlobals mg) (hfa : mg "law" = some (.ref fa)) (h164 : h.get? 164 = some (tabO #[])) (h171 : h.get? 171 = some (tabO #[])) :
    ∃ (fd : FuncData) (cs : List (Addr × Addr)) (sp : Sp), (∀ p ∈ cs, h.get? p.2 = some (tabO #[])) ∧ (∀ p ∈ cs, K.lookup p.2 = none) ∧ (∀ p ∈ cs, CodeHd h p.1 p.2) ∧ (∀ (s : Shared) (u : Value), BindsTo s fd ⟨[u], []⟩ [("_law_script", u)]) ∧
      (∀ (H : Hp) (a : Addr) (ns : List Int), ns.length ≤ 63 → (∀ p ∈ cs, H p.2 = some (.tbl #[])) → SqL K H a (ns.map V.int) → sp [.ref a] H (fun v _ => v = .bl true) fun _ _ _ => False) ∧
      ∀ base : Heap, K.In base → base.Ns mainGlobals mg → (∀ p ∈ cs, TabB base mg p.1 p.2) → FnQ P w K mg base CX0 12 fa fd ["_law_script"] sp := by
  have nf := nameF X G Z.f
  have nn := nameN X G Z.n
  have e := hfa.symm.trans (nf 37 (by decide)).1
  cases e
  obtain ⟨z0, u0⟩ := Z.d0
  have u0 := u0 (nf 0 (by decide)).2
  obtain ⟨z1, u1⟩ := Z.d1
  have u1 := u1 (nf 1 (by decide)).2
  obtain ⟨z2, u2⟩ := Z.d2
  have u2 := u2 (nf 2 (by decide)).2
  obtain ⟨z3, u3⟩ := Z.d3
  have u3 := u3 (nf 3 (by decide)).2
  obtain ⟨z4, u4⟩ := Z.d4
  have u4 := u4 (nf 4 (by decide)).2
  obtain ⟨z5, u5⟩ := Z.d5
  have u5 := u5 (nf 5 (by decide)).2
  obtain ⟨z6, u6⟩ := Z.d6
  have u6 := u6 (nf 6 (by decide)).2
  obtain ⟨z7, u7⟩ := Z.d7
  have u7 := u7 (nf 7 (by decide)).2
  obtain ⟨z8, u8⟩ := Z.d8
  have u8 := u8 (nf 8 (by decide)).2
  obtain ⟨z9, u9⟩ := Z.d9
  have u9 := u9 (nf 9 (by decide)).2
  obtain ⟨z10, u10⟩ := Z.d10
  have u10 := u10 (nf 10 (by decide)).2
  obtain ⟨z11, u11⟩ := Z.d11
  have u11 := u11 (nf 11 (by decide)).2
  obtain ⟨z12, u12⟩ := Z.d12
  have u12 := u12 (nf 12 (by decide)).2
  obtain ⟨z13, u13⟩ := Z.d13
  have u13 := u13 (nf 13 (by decide)).2
  obtain ⟨z14, u14⟩ := Z.d14
  have u14 := u14 (nf 14 (by decide)).2
  obtain ⟨z15, u15⟩ := Z.d15
  have u15 := u15 (nf 15 (by decide)).2
  obtain ⟨z16, u16⟩ := Z.d16
  have u16 := u16 (nf 16 (by decide)).2
  obtain ⟨z17, u17⟩ := Z.d17
  have u17 := u17 (nf 17 (by decide)).2
  obtain ⟨z18, u18⟩ := Z.d18
  have u18 := u18 (nf 18 (by decide)).2
  obtain ⟨z19, u19⟩ := Z.d19
  have u19 := u19 (nf 19 (by decide)).2
  obtain ⟨z20, u20⟩ := Z.d20
  have u20 := u20 (nf 20 (by decide)).2
  obtain ⟨z21, u21⟩ := Z.d21
  have u21 := u21 (nf 21 (by decide)).2
  obtain ⟨z22, u22⟩ := Z.d22
  have u22 := u22 (nf 22 (by decide)).2
  obtain ⟨z23, u23⟩ := Z.d23
  have u23 := u23 (nf 23 (by decide)).2
  obtain ⟨z24, u24⟩ := Z.d24
  have u24 := u24 (nf 24 (by decide)).2
  obtain ⟨z25, u25⟩ := Z.d25
  have u25 := u25 (nf 25 (by decide)).2
  obtain ⟨z26, u26⟩ := Z.d26
  have u26 := u26 (nf 26 (by decide)).2
  obtain ⟨z27, u27⟩ := Z.d27
  have u27 := u27 (nf 27 (by decide)).2
  obtain ⟨z28, u28⟩ := Z.d28
  have u28 := u28 (nf 28 (by decide)).2
  obtain ⟨z29, u29⟩ := Z.d29
  have u29 := u29 (nf 29 (by decide)).2
  obtain ⟨z30, u30⟩ := Z.d30
  have u30 := u30 (nf 30 (by decide)).2
  obtain ⟨z31, u31⟩ := Z.d31
  have u31 := u31 (nf 31 (by decide)).2
  obtain ⟨z32, u32⟩ := Z.d32
  have u32 := u32 (nf 32 (by decide)).2
  obtain ⟨z33, u33⟩ := Z.d33
  have u33 := u33 (nf 33 (by decide)).2
  obtain ⟨z34, u34⟩ := Z.d34
  have u34 := u34 (nf 34 (by decide)).2
  obtain ⟨z35, u35⟩ := Z.d35
  have u35 := u35 (nf 35 (by decide)).2
  obtain ⟨z36, u36⟩ := Z.d36
  have u36 := u36 (nf 36 (by decide)).2
  obtain ⟨z37, u37⟩ := Z.d37
  have u37 := u37 (nf 37 (by decide)).2
  obtain ⟨w0, y0, al0⟩ := tup_of Z.k0
  obtain ⟨w1, y1⟩ := int_of Z.k1
  obtain ⟨w2, y2⟩ := int_of Z.k2
  obtain ⟨w3, y3⟩ := int_of Z.k3
  let T : D K mg :=
   {
    f_opens := 50,
    d_opens := z0,
    U_opens := u0,
    g_opens := (nf 0 (by decide)).1,
    f_next_open := 57,
    d_next_open := z1,
    U_next_open := u1,
    g_next_open := (nf 1 (by decide)).1,
    f_next_ask := 62,
    d_next_ask := z2,
    U_next_ask := u2,
    g_next_ask := (nf 2 (by decide)).1,
    f_soonest_asks := 69,
    d_soonest_asks := z3,
    U_soonest_asks := u3,
    g_soonest_asks := (nf 3 (by decide)).1,
    f_most_between := 76,
    d_most_between := z4,
    U_most_between := u4,
    g_most_between := (nf 4 (by decide)).1,
    f_tidied_pairs := 83,
    d_tidied_pairs := z5,
    U_tidied_pairs := u5,
    g_tidied_pairs := (nf 5 (by decide)).1,
    f_is_whole := 141,
    d_is_whole := z6,
    U_is_whole := u6,
    g_is_whole := (nf 6 (by decide)).1,
    f_is_between := 148,
    d_is_between := z7,
    U_is_between := u7,
    g_is_between := (nf 7 (by decide)).1,
    f_is_tuple := 155,
    d_is_tuple := z8,
    U_is_tuple := u8,
    g_is_tuple := (nf 8 (by decide)).1,
    f_is_limit := 162,
    d_is_limit := z9,
    U_is_limit := u9,
    g_is_limit := (nf 9 (by decide)).1,
    f_are_limits := 169,
    d_are_limits := z10,
    c_are_limits := 168,
    P_are_limits := 164,
    V_are_limits := u10,
    g_are_limits := (nf 10 (by decide)).1,
    f_are_hours := 176,
    d_are_hours := z11,
    c_are_hours := 175,
    P_are_hours := 171,
    V_are_hours := u11,
    g_are_hours := (nf 11 (by decide)).1,
    f_are_rules := 183,
    d_are_rules := z12,
    U_are_rules := u12,
    g_are_rules := (nf 12 (by decide)).1,
    f_check_limits := 190,
    d_check_limits := z13,
    U_check_limits := u13,
    g_check_limits := (nf 13 (by decide)).1,
    f_check_rules := 197,
    d_check_rules := z14,
    U_check_rules := u14,
    g_check_rules := (nf 14 (by decide)).1,
    f_is_stricter := 204,
    d_is_stricter := z15,
    U_is_stricter := u15,
    g_is_stricter := (nf 15 (by decide)).1,
    f_loose_row := 211,
    d_loose_row := z16,
    U_loose_row := u16,
    g_loose_row := (nf 16 (by decide)).1,
    f_row_while_closed := 218,
    d_row_while_closed := z17,
    U_row_while_closed := u17,
    g_row_while_closed := (nf 17 (by decide)).1,
    f_row_of_too_many := 225,
    d_row_of_too_many := z18,
    U_row_of_too_many := u18,
    g_row_of_too_many := (nf 18 (by decide)).1,
    f_are_alike_limits := 232,
    d_are_alike_limits := z19,
    U_are_alike_limits := u19,
    g_are_alike_limits := (nf 19 (by decide)).1,
    f_are_alike_rules := 239,
    d_are_alike_rules := z20,
    U_are_alike_rules := u20,
    g_are_alike_rules := (nf 20 (by decide)).1,
    f_l_well := 246,
    d_l_well := z21,
    U_l_well := u21,
    g_l_well := (nf 21 (by decide)).1,
    f_l_pick := 253,
    d_l_pick := z22,
    U_l_pick := u22,
    g_l_pick := (nf 22 (by decide)).1,
    f_l_one := 260,
    d_l_one := z23,
    U_l_one := u23,
    g_l_one := (nf 23 (by decide)).1,
    f_l_open := 267,
    d_l_open := z24,
    U_l_open := u24,
    g_l_open := (nf 24 (by decide)).1,
    f_l_wrong_at := 272,
    d_l_wrong_at := z25,
    U_l_wrong_at := u25,
    g_l_wrong_at := (nf 25 (by decide)).1,
    f_l_soonest := 279,
    d_l_soonest := z26,
    U_l_soonest := u26,
    g_l_soonest := (nf 26 (by decide)).1,
    f_l_some_limits := 284,
    d_l_some_limits := z27,
    U_l_some_limits := u27,
    g_l_some_limits := (nf 27 (by decide)).1,
    f_l_some_hours := 289,
    d_l_some_hours := z28,
    U_l_some_hours := u28,
    g_l_some_hours := (nf 28 (by decide)).1,
    f_l_line_formed := 296,
    d_l_line_formed := z29,
    U_l_line_formed := u29,
    g_l_line_formed := (nf 29 (by decide)).1,
    f_l_lets := 301,
    d_l_lets := z30,
    U_l_lets := u30,
    g_l_lets := (nf 30 (by decide)).1,
    f_l_by_walk := 306,
    d_l_by_walk := z31,
    U_l_by_walk := u31,
    g_l_by_walk := (nf 31 (by decide)).1,
    f_l_below := 311,
    d_l_below := z32,
    U_l_below := u32,
    g_l_below := (nf 32 (by decide)).1,
    f_l_by_most := 318,
    d_l_by_most := z33,
    U_l_by_most := u33,
    g_l_by_most := (nf 33 (by decide)).1,
    f_l_other := 325,
    d_l_other := z34,
    U_l_other := u34,
    g_l_other := (nf 34 (by decide)).1,
    f_l_pair_right := 332,
    d_l_pair_right := z35,
    U_l_pair_right := u35,
    g_l_pair_right := (nf 35 (by decide)).1,
    f_l_right := 339,
    d_l_right := z36,
    U_l_right := u36,
    g_l_right := (nf 36 (by decide)).1,
    f_law := 346,
    d_law := z37,
    U_law := u37,
    g_law := (nf 37 (by decide)).1,
    a_ALWAYS := w0,
    k_ALWAYS := al0,
    g_ALWAYS := mg_of X G y0,
    t_MOST_ASKS := w1,
    g_MOST_ASKS := mg_of X G y1,
    t_WIDEST := w2,
    g_WIDEST := mg_of X G y2,
    t_MOST_PAIRS := w3,
    g_MOST_PAIRS := mg_of X G y3,
    i_lcm := mg_of X G Z.i0,
    abs := nn 0 (by decide),
    all := nn 1 (by decide),
    bool := nn 2 (by decide),
    divmod := nn 3 (by decide),
    enumerate := nn 4 (by decide),
    int := nn 5 (by decide),
    isinstance := nn 6 (by decide),
    len := nn 7 (by decide),
    list := nn 8 (by decide),
    max := nn 9 (by decide),
    min := nn 10 (by decide),
    range := nn 11 (by decide),
    repr := nn 12 (by decide),
    sum := nn 13 (by decide),
    tuple := nn 14 (by decide) }
  refine ⟨T.d_law, [(168, 164), (175, 171)], spLaw T, ?_, ?_, ?_, ?_, ?_, fun base _ _ TB => ok_law T ⟨TB (168, 164) (by simp), TB (175, 171) (by simp)⟩ (sysM_of Z.s)⟩
  · intro p hp
    simp only [List.mem_cons, List.not_mem_nil, or_false] at hp
    rcases hp with rfl | rfl
    · exact h164
    · exact h171
  · intro p hp
    simp only [List.mem_cons, List.not_mem_nil, or_false] at hp
    rcases hp with rfl | rfl
    · exact Option.isNone_iff_eq_none.mp Z.o10
    · exact Option.isNone_iff_eq_none.mp Z.o11
  · intro p hp
    simp only [List.mem_cons, List.not_mem_nil, or_false] at hp
    rcases hp with rfl | rfl
    · exact hdB_ok X (by decide) Z.t10
    · exact hdB_ok X (by decide) Z.t11
  · obtain ⟨oc, od, kV, doc, pm, an, cdv, ct, osl, e, _⟩ := T.U_law.ex
    rw [e]
    exact fun s u => .of_eq rfl
  · intro H a ns hl hT hS
    refine ⟨a, ns, rfl, hS, hl, fun q hq => ?_, fun _ => rfl⟩
    simp only [tabs, List.mem_cons, List.not_mem_nil, or_false] at hq
    rcases hq with rfl | rfl
    · exact ⟨#[], hT (168, 164) (by simp), by simp [TriplesOk]⟩
    · exact ⟨#[], hT (175, 171) (by simp), by simp [TriplesOk]⟩
end KP

set_option Elab.async false
set_option maxRecDepth 100000
set_option maxHeartbeats 8000000
set_option linter.all false
namespace KP
open PySem PySem.Spec PyProof.Rows L2 Gr PySem.W
/-! the head: beside the written part the table of the modules is looked at, and the tables of the code objects that make generators -/
noncomputable def sysO (P : Params) : Obj := match ((boot_heap P).get? sysModules).getD default with
  | ⟨c, d, .dict es n, sl⟩ => ⟨c, d, .dict (es.push ⟨(if ("math" : Str).cps.isEmpty then 0 else reduceHash (P.strHash ("math" : Str).cps) : Int), .str ("math" : Str) 284, .ref 13⟩) (n + 1), sl⟩
  | o => o
noncomputable def withSys (K : Params → Frag) (P : Params) : Frag := (sysModules, sysO P) :: K P
theorem lookup_withSys {K : Params → Frag} {P : Params} (b : Addr) (h : b ≠ sysModules) : (withSys K P).lookup b = (K P).lookup b := by
  unfold withSys
  rw [List.lookup_cons, beq_eq_false_iff_ne.mpr h]
noncomputable def withTabs (K : Params → Frag) (P : Params) : Frag := (164, tabO #[]) :: (171, tabO #[]) :: withSys K P
theorem tabE {K : Params → Frag} {as : List Addr} (e : ∀ P, as = (K P).map (·.1)) (P : Params) : 164 :: 171 :: sysModules :: as = (withTabs K P).map (·.1) := congrArg (fun l => 164 :: 171 :: sysModules :: l) (e P)
theorem tabs_in {K : Params → Frag} {P : Params} {h : Heap} (X : (withTabs K P).In h) (o164 : ((withSys K P).lookup 164).isNone = true) (o171 : ((withSys K P).lookup 171).isNone = true) : (withSys K P).In h ∧ h.get? 164 = some (tabO #[]) ∧ h.get? 171 = some (tabO #[]) := by
  refine ⟨fun b o e => X b o ?_, X 164 _ (by rfl), X 171 _ (by rfl)⟩
  have n164 : b ≠ 164 := fun q => by
    rw [q, Option.isNone_iff_eq_none.mp o164] at e
    cases e
  have n171 : b ≠ 171 := fun q => by
    rw [q, Option.isNone_iff_eq_none.mp o171] at e
    cases e
  unfold withTabs
  rw [List.lookup_cons, beq_eq_false_iff_ne.mpr n164]
  rw [List.lookup_cons, beq_eq_false_iff_ne.mpr n171]
  exact e
end KP
open PySem PySem.W PyProof.Rows
local macro_rules
  | `(tactic| o_headL ($_ $K $as $p)) => `(tactic| o_headL PySem.W.kHook (KP.withTabs $K) (164 :: 171 :: PySem.sysModules :: $as) (KP.tabE (K := $K) (as := $as) $p))
set_option maxHeartbeats 0 in
theorem PySem.Challenge.cw_gentlerounds_k15_whole_stricter_rules_ex_holds : PySem.Challenge.rw_gentlerounds_k15_whole_stricter_rules_ex.Holds := by
  w_on; o_law; k_headL; (case hw => w_witness2)
  k_fill
  refine Gr.walk_ofQT (l := PySem.Challenge.rw_gentlerounds_k15_whole_stricter_rules_ex) (n := 63) (k := 12) (x := "_law_script") (K := KP.withSys _) rfl (by decide) rfl ⟨rfl, by decide, by decide⟩ (fun w h Y => (KP.tabs_in (PySem.W.kIn_of Y) (by kernel_rfl) (by kernel_rfl)).1) ?F
  case F => as_aux_lemma =>
    intro w mg fa h Y KX G hmg
    have Q := KP.tabs_in (PySem.W.kIn_of Y) (by kernel_rfl) (by kernel_rfl)
    refine' KP.all_ok (KP.Facts.mk ?n ?f ?s ?k0 ?k1 ?k2 ?k3 ?i0 ?d0 ?d1 ?d2 ?d3 ?d4 ?d5 ?d6 ?d7 ?d8 ?d9 ?d10 ?t10 ?o10 ?d11 ?t11 ?o11 ?d12 ?d13 ?d14 ?d15 ?d16 ?d17 ?d18 ?d19 ?d20 ?d21 ?d22 ?d23 ?d24 ?d25 ?d26 ?d27 ?d28 ?d29 ?d30 ?d31 ?d32 ?d33 ?d34 ?d35 ?d36 ?d37) KX G hmg Q.2.1 Q.2.2
    (case n => as_aux_lemma => kernel_rfl)
    (case f => as_aux_lemma => kernel_rfl)
    (case s => as_aux_lemma => kernel_rfl)
    (case k0 => as_aux_lemma => kernel_rfl)
    (case k1 => as_aux_lemma => kernel_rfl)
    (case k2 => as_aux_lemma => kernel_rfl)
    (case k3 => as_aux_lemma => kernel_rfl)
    (case i0 => as_aux_lemma => kernel_rfl)
    (case d0 => (refine' KP.fun_mkS (f := 50) KP.lookup_withSys (by decide) ?l ?c; (case l => k_is); (case c => kernel_rfl)))
    (case d1 => (refine' KP.fun_mkS (f := 57) KP.lookup_withSys (by decide) ?l ?c; (case l => k_is); (case c => kernel_rfl)))
    (case d2 => (refine' KP.fun_mkS (f := 62) KP.lookup_withSys (by decide) ?l ?c; (case l => k_is); (case c => kernel_rfl)))
    (case d3 => (refine' KP.fun_mkS (f := 69) KP.lookup_withSys (by decide) ?l ?c; (case l => k_is); (case c => kernel_rfl)))
    (case d4 => (refine' KP.fun_mkS (f := 76) KP.lookup_withSys (by decide) ?l ?c; (case l => k_is); (case c => kernel_rfl)))
    (case d5 => (refine' KP.fun_mkS (f := 83) KP.lookup_withSys (by decide) ?l ?c; (case l => k_is); (case c => kernel_rfl)))
    (case d6 => (refine' KP.fun_mkS (f := 141) KP.lookup_withSys (by decide) ?l ?c; (case l => k_is); (case c => kernel_rfl)))
    (case d7 => (refine' KP.fun_mkS (f := 148) KP.lookup_withSys (by decide) ?l ?c; (case l => k_is); (case c => kernel_rfl)))
    (case d8 => (refine' KP.fun_mkS (f := 155) KP.lookup_withSys (by decide) ?l ?c; (case l => k_is); (case c => kernel_rfl)))
    (case d9 => (refine' KP.fun_mkS (f := 162) KP.lookup_withSys (by decide) ?l ?c; (case l => k_is); (case c => kernel_rfl)))
    (case d10 => (refine' KP.fun_mkC (f := 169) KP.lookup_withSys (by decide) ?l ?c; (case l => k_is); (case c => kernel_rfl)))
    (case t10 => as_aux_lemma => kernel_rfl)
    (case o10 => as_aux_lemma => kernel_rfl)
    (case d11 => (refine' KP.fun_mkC (f := 176) KP.lookup_withSys (by decide) ?l ?c; (case l => k_is); (case c => kernel_rfl)))
    (case t11 => as_aux_lemma => kernel_rfl)
    (case o11 => as_aux_lemma => kernel_rfl)
    (case d12 => (refine' KP.fun_mkS (f := 183) KP.lookup_withSys (by decide) ?l ?c; (case l => k_is); (case c => kernel_rfl)))
    (case d13 => (refine' KP.fun_mkS (f := 190) KP.lookup_withSys (by decide) ?l ?c; (case l => k_is); (case c => kernel_rfl)))
    (case d14 => (refine' KP.fun_mkS (f := 197) KP.lookup_withSys (by decide) ?l ?c; (case l => k_is); (case c => kernel_rfl)))
    (case d15 => (refine' KP.fun_mkS (f := 204) KP.lookup_withSys (by decide) ?l ?c; (case l => k_is); (case c => kernel_rfl)))
    (case d16 => (refine' KP.fun_mkS (f := 211) KP.lookup_withSys (by decide) ?l ?c; (case l => k_is); (case c => kernel_rfl)))
    (case d17 => (refine' KP.fun_mkS (f := 218) KP.lookup_withSys (by decide) ?l ?c; (case l => k_is); (case c => kernel_rfl)))
    (case d18 => (refine' KP.fun_mkS (f := 225) KP.lookup_withSys (by decide) ?l ?c; (case l => k_is); (case c => kernel_rfl)))
    (case d19 => (refine' KP.fun_mkS (f := 232) KP.lookup_withSys (by decide) ?l ?c; (case l => k_is); (case c => kernel_rfl)))
    (case d20 => (refine' KP.fun_mkS (f := 239) KP.lookup_withSys (by decide) ?l ?c; (case l => k_is); (case c => kernel_rfl)))
    (case d21 => (refine' KP.fun_mkS (f := 246) KP.lookup_withSys (by decide) ?l ?c; (case l => k_is); (case c => kernel_rfl)))
    (case d22 => (refine' KP.fun_mkS (f := 253) KP.lookup_withSys (by decide) ?l ?c; (case l => k_is); (case c => kernel_rfl)))
    (case d23 => (refine' KP.fun_mkS (f := 260) KP.lookup_withSys (by decide) ?l ?c; (case l => k_is); (case c => kernel_rfl)))
    (case d24 => (refine' KP.fun_mkS (f := 267) KP.lookup_withSys (by decide) ?l ?c; (case l => k_is); (case c => kernel_rfl)))
    (case d25 => (refine' KP.fun_mkS (f := 272) KP.lookup_withSys (by decide) ?l ?c; (case l => k_is); (case c => kernel_rfl)))
    (case d26 => (refine' KP.fun_mkS (f := 279) KP.lookup_withSys (by decide) ?l ?c; (case l => k_is); (case c => kernel_rfl)))
    (case d27 => (refine' KP.fun_mkS (f := 284) KP.lookup_withSys (by decide) ?l ?c; (case l => k_is); (case c => kernel_rfl)))
    (case d28 => (refine' KP.fun_mkS (f := 289) KP.lookup_withSys (by decide) ?l ?c; (case l => k_is); (case c => kernel_rfl)))
    (case d29 => (refine' KP.fun_mkS (f := 296) KP.lookup_withSys (by decide) ?l ?c; (case l => k_is); (case c => kernel_rfl)))
    (case d30 => (refine' KP.fun_mkS (f := 301) KP.lookup_withSys (by decide) ?l ?c; (case l => k_is); (case c => kernel_rfl)))
    (case d31 => (refine' KP.fun_mkS (f := 306) KP.lookup_withSys (by decide) ?l ?c; (case l => k_is); (case c => kernel_rfl)))
    (case d32 => (refine' KP.fun_mkS (f := 311) KP.lookup_withSys (by decide) ?l ?c; (case l => k_is); (case c => kernel_rfl)))
    (case d33 => (refine' KP.fun_mkS (f := 318) KP.lookup_withSys (by decide) ?l ?c; (case l => k_is); (case c => kernel_rfl)))
    (case d34 => (refine' KP.fun_mkS (f := 325) KP.lookup_withSys (by decide) ?l ?c; (case l => k_is); (case c => kernel_rfl)))
    (case d35 => (refine' KP.fun_mkS (f := 332) KP.lookup_withSys (by decide) ?l ?c; (case l => k_is); (case c => kernel_rfl)))
    (case d36 => (refine' KP.fun_mkS (f := 339) KP.lookup_withSys (by decide) ?l ?c; (case l => k_is); (case c => kernel_rfl)))
    (case d37 => (refine' KP.fun_mkS (f := 346) KP.lookup_withSys (by decide) ?l ?c; (case l => k_is); (case c => kernel_rfl)))

