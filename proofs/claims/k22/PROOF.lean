import PyProof.Rows.All
import Wide.All
import OpenK.AllK
import Wide.FinOn
import KE.DatumIndex
import HandS.ForMost
import HandS.ForExc
import HandS.ExcInit
import HandS.ExcIs
import HandS.ExcField
import HandS.IsInst
import HandS.Wide
import HandS.WideBits
import HandS.AnyAll
import HandS.Walk
import HandS.Conv
import HandS.TupAny
import KE.GoesEnumKw
import KE.DataIsa
import HandS.Comp
import HandS.Zip
import HandS.TupLe
import HandS.ListEq
import HandS.StrMore
import HandS.Dict
import HandS.SortKw
import KE.DataMinMax
import KE.KTupSum
import HandS.TupMul
import HandS.Style
import HandS.SortInts
import KE.SortCalls
import KE.KIndexOf
import KE.KDictDisplayH
import HandS.Defaults
import HandS.ExcOwn
import HandS.Lambda
import KE.SortKeyHeap
import KE.SortData
import KE.KLam
import HandS.EndTab
import HandS.GenOver
import PyProof.GenCompD
import PyProof.ConsumeS
import HandS.Property
import HandS.MakeKwOnly
import PySem.Challenge.RW_gentlerounds_k22_whole_groups_and_reason
import HandS.DictSub
import KE.OsArith
import HandS.More
import HandS.Flow
import HandS.Replace
import HandS.ReplaceList
import HandS.Gcd
import PyProof.StrOps2
import PyProof.StrLawsRepr
import KE.OsRunLaw
set_option Elab.async false
set_option maxRecDepth 100000
set_option maxHeartbeats 4000000
set_option linter.all false
/-! Ours: defs that are entered where no repr is under way (FnQ), their calls and bodies; repr of data. -/
namespace Gr
open PySem PySem.Spec PyProof.Rows L2

/-- a def's promise, for calls where no repr is under way -/
structure FnQ (P : Program) (w : World) (K : PySem.W.Frag) (mg : Str → Option Value) (base : Heap) (CX : CXT) (k : Nat)
    (f : Addr) (fd : FuncData) (ps : List Str) (sp : Sp) : Prop where
  len : ∀ vs H Q E, sp vs H Q E → vs.length = ps.length
  run : ∀ (A : Around) (outer : List Env) (s : Shared) (H : Hp) (args : Args) (us : List Value) (vs : List V) (Q : VK) (E : XK),
    A.guards = some [] → Room k A → Env0 P w K mg base A outer s H → BindsTo s fd args (ps.zip us) → Vals vs us → sp vs H Q E →
    codeAny (model P w) A (.call (.ref f) args) (CR CX outer P w H s Q E) s

section
variable {P : Program} {w : World} {K : PySem.W.Frag} {mg : Str → Option Value} {base : Heap}

theorem fnQ_fn {CX : CXT} {k : Nat} {f : Addr} {fd : FuncData} {ps : List Str} {sp : Sp}
    (F : FnOk P w K mg base CX k f fd ps sp) : FnQ P w K mg base CX k f fd ps sp :=
  ⟨F.len, fun A outer s H args us vs Q E _ => F.run A outer s H args us vs Q E⟩

/-- such a def by its body -/
theorem fnQ_of {CX : CXT} {k : Nat} {f : Addr} {nm ql : Str} {par : Arguments} {bd : List Stmt} {sc : Scope}
    {dV kV doc pm cdv ct oc : Value} {an od : Option Addr} {osl : Array (Option Value)} {N ps : List Str} {sp : Sp}
    (lk : K.lookup f = some ⟨oc, od, .func (PySem.W.fnOf nm ql par bd sc dV kV doc pm an cdv ct), osl⟩)
    (hcd : PySem.W.codeIn K cdv ql = true) (S : FnScope N ps sc)
    (len : ∀ vs H Q E, sp vs H Q E → vs.length = ps.length)
    (hb : ∀ (A : Around) (outer : List Env) (s : Shared) (H : Hp) (vs : List V) (Q : VK) (E : XK), A.guards = some [] →
      Room k (A.deeper (envOfC ql sc s.heap.objs.size f cdv)) → sp vs H Q E →
      ∃ t, PSs (cxOf CX P w K mg base N ql sc f cdv A outer s H E) bd t ∧
        t { nx := fun _ H' => Q .non H', rt := Q } (start N vs) H) :
    FnQ P w K mg base CX (k + 1) f (PySem.W.fnOf nm ql par bd sc dV kV doc pm an cdv ct) ps sp := by
  refine ⟨len, fun A outer s H args us vs Q E hgu hr e0 hbi r hsp => ?_⟩
  have hlen := len _ _ _ _ hsp
  have keepB : ∀ b o, base.get? b = some o → s.heap.get? b = some o := fun b o e => (e0.bs b o e).1
  have KX : K.In s.heap := e0.mod.kin.keeps keepB
  have lim : s.heap.NoLimit := e0.mod.nolimit.keeps keepB
  refine codeAny_call_function hr.depth (KX _ _ lk) rfl S.co S.gen rfl (PySem.W.codeRec_of KX hcd) (hbi _ _ _ _ ?_)
  refine wpAny_newFunctionEnv_cells S.kind (fun ⟨n, v⟩ hy => ?_) fun env he s1 x => ?_
  · exact (S.par n (List.of_mem_zip hy).1).elim .inl fun q => .inr ⟨q, PySem.W.cellsFrom_some _ _ _ (.inl q)⟩
  subst he
  refine ⟨lim.keeps x.toInCall.keep, codeAny_func ?_⟩
  obtain ⟨t, ht, hq⟩ := hb A outer s H vs Q E hgu (hr.deeper _) hsp
  have I := inv_start (CX := CX) (E := E) S hr.hd e0 hlen r x
  refine wpAny_mono (ht.run [] s1 (start N vs) H _ I hq) (fun fl s' hs => ?_) fun e s' hs => hs
  cases fl with
  | ret u =>
    obtain ⟨v, σ', H', J, rv, q⟩ := hs
    exact ⟨v, H', J.os, J.bare, J.base, J.hok, rv, q⟩
  | next =>
    obtain ⟨σ', H', J, q⟩ := hs
    exact ⟨V.non, H', J.os, J.bare, J.base, J.hok, rfl, q⟩
  | brk =>
    obtain ⟨_, _, _, q⟩ := hs
    exact q.elim
  | cont =>
    obtain ⟨_, _, _, q⟩ := hs
    exact q.elim

/-- the same in the words of Fun -/
theorem funQ {x ql : Str} {st : Stmt} {f : Addr} {fd : FuncData} {N ps : List Str} {k : Nat} {sp : Sp} (F : Fun K x ql st f fd)
    (S : FnScope N ps (defScope st)) (len : ∀ vs H Q E, sp vs H Q E → vs.length = ps.length)
    (hb : ∀ (cdv : Value) (A : Around) (outer : List Env) (s : Shared) (H : Hp) (vs : List V) (Q : VK) (E : XK), A.guards = some [] →
      Room k (A.deeper (envOfC ql (defScope st) s.heap.objs.size f cdv)) → sp vs H Q E →
      ∃ t, PSs (cxOf CX0 P w K mg base N ql (defScope st) f cdv A outer s H E).nox (defBody st) t ∧
        t { nx := fun _ H' => Q .non H', rt := Q } (start N vs) H) : FnQ P w K mg base CX0 (k + 1) f fd ps sp := by
  obtain ⟨oc, od, kV, doc, pm, an, cdv, ct, osl, rfl, lk, hcd⟩ := F.ex
  refine fnQ_of lk hcd S len fun A outer s H vs Q E hgu hr hsp => ?_
  obtain ⟨t, h, q⟩ := hb cdv A outer s H vs Q E hgu hr hsp
  exact ⟨t, h.nox, q⟩
/-- .. where exceptions may run within the body (a try) -/
theorem funQx {x ql : Str} {st : Stmt} {f : Addr} {fd : FuncData} {N ps : List Str} {k : Nat} {sp : Sp} {CX : CXT} (F : Fun K x ql st f fd)
    (S : FnScope N ps (defScope st)) (len : ∀ vs H Q E, sp vs H Q E → vs.length = ps.length)
    (hb : ∀ (cdv : Value) (A : Around) (outer : List Env) (s : Shared) (H : Hp) (vs : List V) (Q : VK) (E : XK), A.guards = some [] →
      Room k (A.deeper (envOfC ql (defScope st) s.heap.objs.size f cdv)) → sp vs H Q E →
      ∃ t, PSs (cxOf CX P w K mg base N ql (defScope st) f cdv A outer s H E) (defBody st) t ∧
        t { nx := fun _ H' => Q .non H', rt := Q } (start N vs) H) : FnQ P w K mg base CX (k + 1) f fd ps sp := by
  obtain ⟨oc, od, kV, doc, pm, an, cdv, ct, osl, rfl, lk, hcd⟩ := F.ex
  exact fnQ_of lk hcd S len fun A outer s H vs Q E hgu hr hsp => hb cdv A outer s H vs Q E hgu hr hsp
end

section
variable {X : Cx} {CX : CXT} {k : Nat} {f : Addr} {fd : FuncData} {ps : List Str} {sp : Sp} {dvs : List V} {ds : List Value} {E : XK} {x : Str} {p pos : Pos} {e : Expr} {es : List Expr} {t : TA}
theorem run_fnQ {pins : List (Addr × Obj)} {σ : L2.St} {H : Hp} {s : Shared} {Q : VK} {us : List Value} {vs : List V} (hgu : X.A.guards = some [])
    (F : FnQ X.prog X.w X.K X.mg X.base CX k f fd ps sp) (hr : Room k X.A) (hb : Binds X.K fd ps ds) (hd : Vals dvs ds) (hx : Passes CX X E)
    (I : Inv X pins σ H s) (r : Vals vs us) (h : sp (vs ++ dvs) H Q E) : wpAny (model X.prog X.w) X.A (call (.ref f) us) (EP X pins σ Q) X.xe s := by
  have r2 := Vals.append r hd
  have hl : (us ++ ds).length = ps.length := (r2.length).symm.trans (F.len _ _ _ _ h)
  refine wpAny_call (codeAny_mono (F.run X.A X.stack s H ⟨us, []⟩ (us ++ ds) (vs ++ dvs) Q E hgu hr I.env0 (hb s us I.kIn hl) r2 h) fun rr s' hq => ?_)
  match rr, hq with
  | .error e, hq => exact hx pins σ H s e s' I hq
  | .ok (.ret u), hq => exact I.after hq
/-- f(e, ..) -/
theorem pe_callQ (hgu : X.A.guards = some []) (F : FnQ X.prog X.w X.K X.mg X.base CX k f fd ps sp) (hr : Room k X.A) (hg : Gl X x) (hm : X.mg x = some (.ref f))
    (hk : PySem.W.keepIn X.K (.ref f) = true) (hb : Binds X.K fd ps ds) (hd : Vals dvs ds) (hx : Passes CX X E) (ha : PA X (e :: es) t)
    (hdb : (x == ("__debug__" : Str)) = false := by decide) (he : starEach (e :: es) X.env = (false, eval e X.env) :: starEach es X.env := by rfl)
    (hpl : (backTo pos (starEach es X.env)).any (·.1) = false := by rfl) : PE X (.Call (.Name x p) (e :: es) [] pos) (tCall sp dvs E t) :=
  ⟨fun pins s σ H Q I h => wpAny_Call_Name_kw (ld_glob I hg hm (PySem.W.callWith_K (h₀ := X.base) I.ok.mod.kin hk
    (thn (ha.run pos pins s σ H _ I h) fun us s1 ⟨vs, H1, I1, r, q⟩ => ⟨I1.kIn, run_fnQ hgu F hr hb hd hx I1 r q⟩) he hpl) hdb)⟩
end
end Gr

set_option Elab.async false
set_option maxRecDepth 100000
set_option maxHeartbeats 4000000
set_option linter.all false
/-! Ours: repr of data (lists, tuples, dicts of int and text keys, nested), where no repr is under way. -/
namespace Gr
open PySem PySem.Spec PyProof.Rows L2

mutual
/-- the value v holds the data d -/
inductive Dq (K : PySem.W.Frag) (H : Hp) : V → PyData → Prop
  | non : Dq K H .non .none
  | bl (b : Bool) : Dq K H (.bl b) (.bool b)
  | int (i : Int) : Dq K H (.int i) (.int i)
  | str (x : Str) : Dq K H (.str x) (.str x)
  | lst {a : Addr} {xs : List V} {ds : List PyData} : SqL K H a xs → DqAll K H xs ds → Dq K H (.ref a) (.list ds)
  | tup {a : Addr} {xs : List V} {ds : List PyData} : SqT K H a xs → DqAll K H xs ds → Dq K H (.ref a) (.tuple ds)
  | dic {a : Addr} {kvs : List (Key × V)} {ds : List (PyData × PyData)} : H a = some (.dK kvs) →
      DqAll K H (kvs.map fun p => kV p.1) (ds.map (·.1)) → DqAll K H (kvs.map (·.2)) (ds.map (·.2)) → Dq K H (.ref a) (.dict ds)
inductive DqAll (K : PySem.W.Frag) (H : Hp) : List V → List PyData → Prop
  | nil : DqAll K H [] []
  | cons {v : V} {vs : List V} {d : PyData} {ds : List PyData} : Dq K H v d → DqAll K H vs ds → DqAll K H (v :: vs) (d :: ds)
end

theorem SqT_same {K : PySem.W.Frag} {H H' : Hp} {a : Addr} {xs : List V} (e : Same H H') (h : SqT K H a xs) : SqT K H' a xs := by
  rcases h with (h | ⟨o, h⟩) | h
  · exact .inl (.inl (e _ _ h))
  · exact .inl (.inr ⟨o, e _ _ h⟩)
  · exact .inr h
/-- what more is tracked changes no data -/
theorem Dq.same {K : PySem.W.Frag} {H H' : Hp} {v : V} {d : PyData} (e : Same H H') (h : Dq K H v d) : Dq K H' v d :=
  Dq.rec (motive_1 := fun v d _ => Dq K H' v d) (motive_2 := fun vs ds _ => DqAll K H' vs ds)
    .non .bl .int .str (fun hs _ ih => .lst (e.seq hs) ih) (fun hs _ ih => .tup (SqT_same e hs) ih)
    (fun hd _ _ i1 i2 => .dic (e _ _ hd) i1 i2) .nil (fun _ _ i1 i2 => .cons i1 i2) h
theorem DqAll.rep {K : PySem.W.Frag} {H : Hp} {v : V} {d : PyData} (h : Dq K H v d) : ∀ n : Nat, DqAll K H (List.replicate n v) (List.replicate n d)
  | 0 => .nil
  | n + 1 => .cons h (DqAll.rep h n)

theorem keys_of_pairs {P : Program} {w : World} : ∀ {es : List DictEntry} {kvs : List (Key × Value)}, Pairs (mixKind P w) es kvs → Vals (kvs.map fun p => kV p.1) (es.map (·.key))
  | _, _, .nil => .nil
  | _, _, .cons h _ t => by
    refine .cons ?_ (keys_of_pairs t)
    rcases keyIs_shape h with ⟨i, t, e1, e2⟩ | ⟨x, t, e1, e2⟩
    · dsimp only
      rw [e1, e2]
      exact ⟨t, rfl⟩
    · dsimp only
      rw [e1, e2]
      exact ⟨t, rfl⟩
theorem vals_of_pairs {P : Program} {w : World} : ∀ {es : List DictEntry} {kvs : List (Key × Value)}, Pairs (mixKind P w) es kvs → es.map (·.val) = kvs.map (·.2)
  | _, _, .nil => rfl
  | _, _, .cons _ h t => by rw [List.map_cons, List.map_cons, h, vals_of_pairs t]
theorem kv_keys : ∀ {kvs : List (Key × V)} {vs : List (Key × Value)}, KV kvs vs → kvs.map (fun p => kV p.1) = vs.map (fun p => kV p.1)
  | _, _, .nil => rfl
  | _, _, .cons h t => by rw [List.map_cons, List.map_cons, h.1, kv_keys t]
theorem kv_vals : ∀ {kvs : List (Key × V)} {vs : List (Key × Value)}, KV kvs vs → Vals (kvs.map (·.2)) (vs.map (·.2))
  | _, _, .nil => .nil
  | _, _, .cons h t => .cons h.2 (kv_vals t)

/-- sys.modules is a dict of the written part -/
def SysM (K : PySem.W.Frag) : Prop := ∃ o es n, K.lookup sysModules = some o ∧ o.data = .dict es n

section
variable {X : Cx} {pins : List (Addr × Obj)} {σ : L2.St} {H : Hp} {s : Shared}
theorem Dq.reads (I : Inv X pins σ H s) {v : V} {d : PyData} (h : Dq X.K H v d) : ∀ u : Value, RelV v u → ∃ as, Reads s.heap u d as ∧ (SysM X.K → sysModules ∉ as) := by
  refine Dq.rec (motive_1 := fun v d _ => ∀ u : Value, RelV v u → ∃ as, Reads s.heap u d as ∧ (SysM X.K → sysModules ∉ as))
    (motive_2 := fun vs ds _ => ∀ us : List Value, Vals vs us → ∃ as, ReadsAll s.heap us ds as ∧ (SysM X.K → sysModules ∉ as)) ?_ ?_ ?_ ?_ ?_ ?_ ?_ ?_ ?_ h
  · intro u r
    cases r
    exact ⟨_, .none, fun _ z => nomatch z⟩
  · intro b u r
    cases r
    exact ⟨_, .bool b, fun _ z => nomatch z⟩
  · intro i u r
    obtain ⟨t, rfl⟩ := r
    exact ⟨_, .int i t, fun _ z => nomatch z⟩
  · intro x u r
    obtain ⟨t, rfl⟩ := r
    exact ⟨_, .str x t, fun _ z => nomatch z⟩
  · intro a xs ds hs _ ih u r
    cases r
    obtain ⟨its, rv, ⟨o, n, ho, hc, _, hd⟩, _⟩ := I.list hs
    obtain ⟨as, hr, hm⟩ := ih its rv
    refine ⟨_, .list ho hc hd hr, fun M z => ?_⟩
    rcases List.mem_cons.mp z with z | z
    · obtain ⟨o', es, n', e1, e2⟩ := id M
      have e3 := I.kIn _ _ e1
      rw [z, ho] at e3
      cases e3
      rw [hd] at e2
      cases e2
    · exact hm M z
  · intro a xs ds hs _ ih u r
    cases r
    obtain ⟨its, rv, ⟨o, ho, hc, n, hd⟩, _⟩ := I.tuple hs
    obtain ⟨as, hr, hm⟩ := ih its rv
    exact ⟨_, .tuple ho hc hd hr, hm⟩
  · intro a kvs ds hd _ _ i1 i2 u r
    cases r
    obtain ⟨_, hsm, vs, kv, o, es, ep, ho, hx, hdt, _, hp, _⟩ := (show ObjOk X.prog X.w H s.heap a (.dK kvs) from I.hok a _ hd)
    obtain ⟨as, r1, m1⟩ := i1 (es.toList.map (·.key)) (by rw [kv_keys kv]; exact keys_of_pairs hp)
    obtain ⟨bs, r2, m2⟩ := i2 (es.toList.map (·.val)) (by rw [vals_of_pairs hp]; exact kv_vals kv)
    refine ⟨_, .dict ho hx.1 hdt r1 r2, fun M z => ?_⟩
    rcases List.mem_append.mp z with z | z
    · rcases List.mem_cons.mp z with z | z
      · rw [← z] at hsm
        exact absurd hsm (by decide)
      · exact m1 M z
    · exact m2 M z
  · intro us r
    cases r
    exact ⟨_, .nil, fun _ z => nomatch z⟩
  · intro v vs d ds _ _ i1 i2 us r
    cases r with
    | cons ra rr =>
      obtain ⟨as, q1, m1⟩ := i1 _ ra
      obtain ⟨bs, q2, m2⟩ := i2 _ rr
      refine ⟨_, .cons q1 q2, fun M z => ?_⟩
      rcases List.mem_append.mp z with z | z
      · exact m1 M z
      · exact m2 M z
end

/-- repr(x), x data -/
def rRepr (K : PySem.W.Frag) : List V → Hp → VK → Prop := fun xs H Q => ∃ v d, xs = [v] ∧ Dq K H v d ∧ d.showable = true ∧ d.depth ≤ 60 ∧ d.shown.length ≤ sizeLine ∧ Q (.str d.shown) H

theorem repr_ref_only {h : Heap} {d : PyData} {a : Addr} {as : List Addr} (r : Reads h (.ref a) d as) : True := trivial
section
variable {X : Cx}
theorem call_reprD (hgu : X.A.guards = some []) (hu : X.A.units + 64 < cLine) (hM : SysM X.K) : CallR X (.builtin "repr") (rRepr X.K) := by
  intro pins s σ H xs us Q I r h
  obtain ⟨v, d, rfl, hd, hs, hdp, hz, q⟩ := h
  obtain ⟨u, rfl, ru⟩ := vals1 r
  obtain ⟨as, hr, hm⟩ := hd.reads I u ru
  have fin : ∀ h' tk t, (∀ b o, s.heap.get? b = some o → h'.get? b = some o) → EP X pins σ Q (.str d.shown t) { s with heap := h', toks := tk } :=
    fun h' tk t hk => ⟨.str d.shown, H, I.kept hk, ⟨_, rfl⟩, q⟩
  cases v with
  | ref a =>
    cases (show u = Value.ref a from ru)
    exact repr_of_reads' hr hs (fun _ => hm hM) hgu (by omega) (fun _ _ e => e) (fun h' t tk hk => fin h' tk t hk) hz
  | non =>
    cases hd
    cases (show u = Value.none from ru)
    exact PySem.P.repr_of_none (fin s.heap _ _ fun _ _ e => e)
  | bl b =>
    cases hd
    cases (show u = Value.bool b from ru)
    exact PySem.P.repr_of_bool (fin s.heap _ _ fun _ _ e => e)
  | int i =>
    cases hd
    obtain ⟨t, e⟩ := (show ∃ t, u = Value.int i t from ru)
    subst e
    exact PySem.P.repr_of_int (by simpa [PyData.showable] using hs) (fin s.heap _ _ fun _ _ e => e)
  | str x =>
    cases hd
    obtain ⟨t, e⟩ := (show ∃ t, u = Value.str x t from ru)
    subst e
    exact PySem.P.repr_of_str (fin s.heap _ _ fun _ _ e => e) (by simpa [PyData.shown] using hz)
  | byt b => cases hd
  | flt b => cases hd
  | ty n => cases hd
end
end Gr

set_option Elab.async false
set_option maxRecDepth 100000
set_option maxHeartbeats 4000000
set_option linter.all false
/-! Ours: all(..) of a generator expression over a text's signs whose element may read names of the module. -/
namespace Gr
open PySem PySem.Spec PyProof.Rows L2 GxR

/-- the element tells pb of the sign; the running def's module is at hand -/
def EltG (X : Cx) (scope : Scope) (x : Str) (elt : Expr) (pb : Nat → Bool) : Prop :=
  ∀ (en : Env) (B : Around) (E' : Value → Shared → Prop) (c : Nat) (t : Tok) (z : Shared) (m : Str → Option Value),
    en.scope = scope → en.globals = X.env.globals → (∀ b o, X.base.get? b = some o → z.heap.get? b = some o) → X.base.Ns mainGlobals X.mg → X.env.globals = mainGlobals → z.heap.Ns en.locals m → m x = some (.str ⟨#[c]⟩ t) →
    wpAny (model X.prog X.w) B (eval elt en) (fun y z' => y = .bool (pb c) ∧ Keeps z z') E' z

section
variable {X : Cx} {pins : List (Addr × Obj)} {σ : L2.St} {H : Hp} {s : Shared}
/-- the code of a generator expression, and the built-ins it sees, behind an iterator that was just made -/
theorem code_then {c P : Addr} {ps : Array Value} {o : Obj} {scope : Scope} {q : Str} {gpos : Pos} {E : Value → Shared → Prop} {R : Value → Addr → Shared → Prop} (I : Inv X pins σ H s)
    (TB : TabB X.base X.mg c P) (hcode : X.env.code = .ref c) (hP : H P = some (.tbl ps)) (ht : TriplesOk ps.toList)
    (h : ∀ (cv : Value) (k : Heap) (tk : Nat) (more : Array Value), (∀ b u, b ≠ P → (s.heap.push o).get? b = some u → k.get? b = some u) → s.heap.objs.size < k.objs.size → k.get? P = some { cls := .none, data := .fields (ps ++ more) } → TriplesOk (ps ++ more).toList → k.NoLimit →
      R cv builtinsNs { s with heap := k, toks := tk }) :
    wpAny (model X.prog X.w) X.A (genexprCode X.env gpos q scope) (fun cv z => wpAny (model X.prog X.w) X.A (builtinsFor X.env.globals X.env.builtins) (fun bi z' => R cv bi z') E z) E { s with heap := s.heap.push o } := by
  have p0 : s.heap.get? P = some { cls := .none, data := .fields ps } := I.hok P _ hP
  have p1 : (s.heap.push o).get? P = some { cls := .none, data := .fields ps } := Heap.get?_push_of_some _ p0
  have cd : PySem.W.CodeHd (s.heap.push o) c P := TB.code.keeps fun b u e => Heap.get?_push_of_some _ (I.bk b u e)
  have lim : (s.heap.push o).NoLimit := I.nolimit.push o
  have nP : cStatics ≠ P := by
    obtain ⟨_, ⟨o', es, ep, ho, hd, _⟩, _⟩ := I.nolimit
    intro e
    rw [e, p0] at ho
    cases ho
    cases hd
  have last : ∀ (cv : Value) (k : Heap) (tk : Nat) (more : Array Value), Heap.ExtBut P (s.heap.push o) k → (s.heap.push o).objs.size ≤ k.objs.size → k.get? P = some { cls := .none, data := .fields (ps ++ more) } → TriplesOk (ps ++ more).toList →
      wpAny (model X.prog X.w) X.A (builtinsFor X.env.globals X.env.builtins) (fun bi z' => R cv bi z') E { s with heap := k, toks := tk } := by
    intro cv k tk more hx hs hp ht'
    obtain ⟨bm, ob, e1, e2, e3, e4, e5, e6, e7, e8⟩ := TB.bm
    have up : ∀ b u, b ≠ P → s.heap.get? b = some u → k.get? b = some u := fun b u n e => hx b u n (Heap.get?_push_of_some _ e)
    have g : k.Ns X.env.globals X.mg := by
      rw [I.ok.glob]
      exact ((I.mod.glob.keeps I.bk).push o).extBut hx TB.gP
    refine wpAny_builtinsFor g e1 e2 (up _ _ e4 (I.bk _ _ e5)) e6 e7 e8 (h cv k tk more hx ?_ hp ht' (lim.extBut hx nP))
    rw [Heap.size_push] at hs
    exact hs
  cases hf : codeAmong gpos ps.toList with
  | none =>
    refine wpAny_genexprCodeX hcode (cd.code p1 ht) (cd.tab p1) hf fun c' k tk hx hge hlt hco _ htab _ => ?_
    obtain ⟨_, _, _, _, _, _, _, _, _, _, _, _, _, _, _, _, _, _, _, htr, _⟩ := hco
    exact last _ k tk _ hx (Nat.le_of_lt (Nat.lt_of_le_of_lt hge hlt)) htab.2 htr
  | some cv =>
    refine wpAny_genexprCode_hit hcode (cd.code p1 ht) hf ?_
    have e : ps ++ #[] = ps := by simp
    exact last cv (s.heap.push o) s.toks #[] (fun b u _ e => e) (Nat.le_refl _) (by rw [e]; exact p1) (by rw [e]; exact ht)

theorem genG {c P : Addr} {elt iter : Expr} {x : Str} {px gpos : Pos} {scope : Scope} {pb : Nat → Bool} {te : TE} {k : Nat} {W : Value → Shared → Prop} {R : Str → Hp → Prop}
    (hr : Room k X.A) (TB : TabB X.base X.mg c P) (hcode : X.env.code = .ref c) (S : GenS X.env scope x) (hi : PE X iter te) (hel : EltG X scope x elt pb)
    (hs : ∀ v, genFold iter X.env v = pure v) (I : Inv X pins σ H s) (h : te σ H fun v H1 => ∃ a : Str, v = .str a ∧ TabG H1 P ∧ R a H1)
    (hQ : ∀ a H1 g z, R a H1 → Ready X pins σ H1 P a pb g z → W (.ref g) z) :
    wpAny (model X.prog X.w) X.A (eval (.GeneratorExp elt [⟨.Name x px, iter, [], 0⟩] scope gpos) X.env) W X.xe s := by
  have dr : X.A.depth < recursionLimit := Nat.lt_of_le_of_lt (by omega) hr.dp
  refine wpAny_GeneratorExp_walksQ hr.hd S.co (closure_ok S.free) S.cell S.dot S.loc S.kind dr (thn (hi.run pins s σ H _ I h) ?_) hs
  rintro xv s1 ⟨v, H1, I1, r1, a, rfl, ⟨ps, hP, ht⟩, q1⟩
  obtain ⟨t, rfl⟩ := id r1
  refine wpAny_pyIter_str fun o St Wk st0 => ⟨I1.nolimit.push o, code_then I1 TB hcode hP ht fun cv h3 tk more up lt hp ht' lim => ?_⟩
  have p0 : s1.heap.get? P = some { cls := .none, data := .fields ps } := I1.hok P _ hP
  have pl : P < s1.heap.objs.size := Heap.lt_size p0
  have at1 : ∀ b, b ∈ [s1.heap.objs.size] → b = s1.heap.objs.size := fun b hb => List.mem_singleton.mp hb
  have ne1 : s1.heap.objs.size ≠ P := fun e => Nat.lt_irrefl _ (e ▸ pl)
  have cl : cStatics < s1.heap.objs.size := let ⟨_, n, _⟩ := I1.nolimit; n.lt
  have up0 : ∀ b u, b ≠ P → s1.heap.get? b = some u → h3.get? b = some u := fun b u n e => up b u n (Heap.get?_push_of_some _ e)
  refine ⟨s1.heap.objs.size, [s1.heap.objs.size], [s1.heap.objs.size], a.cps.size, SignAt a, St, fun _ => true, fun i y => ∃ d, a.cps[i]? = some d ∧ y = .bool (pb d), rfl, Wk, ?_, fun b hb => ?_, lim, fun z => ?_, fun href hh => ?_, ?_⟩
  · refine (Wk X.A hr.hd).frame _ _ _ st0 fun b hb u e => up b u ?_ e
    rw [at1 b hb]
    exact ne1
  · rw [at1 b hb]
    exact lt
  · rw [at1 _ z] at cl
    exact Nat.lt_irrefl _ cl
  · constructor
    · intro B E' i v z m _ _ _ _ _
      rw [List.forIn_nil]
      exact wpAny_pure ⟨rfl, keeps_refl _⟩
    · intro B E' i v z m _ hv _ hn hm hk
      obtain ⟨d, u, hd, rfl⟩ := hv
      refine wpAny_mono (hel _ B E' d u z m rfl rfl (fun b w' e => ?_) I1.mod.glob I1.ok.glob hn hm) (fun y z' r => ⟨⟨d, hd, r.1⟩, r.2⟩) fun _ _ e => e
      obtain ⟨e1, e2⟩ := I1.bs b w' e
      have nb : b ≠ P := fun z => by
        rw [z, hP] at e2
        cases e2
      have lb : b < s1.heap.objs.size := Heap.lt_size e1
      refine hk b (List.mem_range.mpr (Nat.lt_trans lb lt)) (fun z => ?_) _ (hh _ _ (up0 b w' nb e1))
      rw [at1 b z] at lb
      exact Nat.lt_irrefl _ lb
  · intro g h5 tk5 gs gb ag sz5 k5 W5 hat
    simp only [GxR.passing_true, List.length_range] at W5
    refine hQ a H1 g _ q1 ⟨_, _, _, _, _, W5.in4_1, hat, ?_, fun s' mv => ?_⟩
    · rintro j y z Q' E' ⟨i, hij, d, hd, rfl⟩ q
      obtain ⟨hj, ej⟩ := List.getElem?_eq_some_iff.mp hij
      rw [List.getElem_range] at ej
      cases ej
      have e : a.cps.toList[j]? = some d := (Array.getElem?_toList (xs := a.cps) (i := j)).trans hd
      have q' : Q' (trF pb a.cps.toList j) z := q
      rw [trF_some e] at q'
      exact wpAny_truthy_bool q'
    · have nw : ∀ b u, s1.heap.get? b = some u → b ∉ h3.objs.size :: [s1.heap.objs.size] := fun b u e hb => by
        have l := Heap.lt_size e
        have l2 : s1.heap.objs.size < h3.objs.size := lt
        rcases List.mem_cons.mp hb with z | z
        · rw [z] at l
          exact Nat.lt_asymm l l2
        · rw [at1 b z] at l
          exact Nat.lt_irrefl _ l
      have J := inv_tab (more := more) (h' := s'.heap) (g' := s'.gens) (d' := s'.drawn) (t' := s'.toks) I1 hP (fun b u n e => mv.heap b u (nw b u e) (k5 b u (up0 b u n e))) (mv.heap P _ (nw P _ p0) (k5 P _ hp)) (AllBare.movedS (I1.bare.push gb) mv)
      have es : ({ s1 with heap := s'.heap, gens := s'.gens, drawn := s'.drawn, toks := s'.toks } : Shared) = s' := by
        obtain ⟨_, _, _, _, _⟩ := s'
        have := mv.os
        dsimp only at this
        rw [this]
      rw [es] at J
      exact ⟨upd H1 P (.tbl (ps ++ more)), ⟨⟨_, upd_same, ht'⟩, fun b hb => upd_ne hb⟩, J⟩

/-- all(elt for x in e), e a text -/
theorem pe_allG {c P : Addr} {elt iter : Expr} {x : Str} {px p pos gpos : Pos} {scope : Scope} {pb : Nat → Bool} {te : TE} {k : Nat}
    (hr : Room k X.A) (hg : Gl X "all") (hm : X.mg "all" = none) (TB : TabB X.base X.mg c P) (hcode : X.env.code = .ref c) (S : GenS X.env scope x) (hi : PE X iter te) (hel : EltG X scope x elt pb)
    (hs : ∀ v, genFold iter X.env v = pure v)
    (he : starEach [.GeneratorExp elt [⟨.Name x px, iter, [], 0⟩] scope gpos] X.env = (false, eval (.GeneratorExp elt [⟨.Name x px, iter, [], 0⟩] scope gpos) X.env) :: starEach [] X.env := by rfl) :
    PE X (.Call (.Name "all" p) [.GeneratorExp elt [⟨.Name x px, iter, [], 0⟩] scope gpos] [] pos) (tAllS P pb te) := by
  refine ⟨fun pins s σ H Q I h => wpAny_Call_Name_kw (ld_blt I hg hm boot_all (PyProof.Rows.callWith_builtin1 ?_ he (by rfl)))⟩
  rw [he]
  show wpAny _ _ (spliced ((false, eval (.GeneratorExp elt [⟨.Name x px, iter, [], 0⟩] scope gpos) X.env) :: backTo pos (starEach [] X.env))) _ _ s
  refine Calls.spliced_cons (genG (R := fun a H1 => ∀ H2, Tabbed P H1 H2 → Q (.bl (a.cps.toList.all pb)) H2) hr TB hcode S hi hel hs I h ?_)
  rintro a H1 g z hR ⟨fp, wr, G, F, St, W, hst, htr, hI⟩
  refine Calls.spliced_nil (call_all_walkS (W.self 0 _ _ _ hst ⟨g, fp, wr, G, _, F, St, _, rfl, W, hst, htr, fun s' mv => ?_⟩))
  obtain ⟨H2, hT, J⟩ := hI s' mv
  rw [all_signs a pb]
  exact ⟨.bl _, H2, J, rfl, hR H2 hT⟩
end

/-- x == 'k' -/
theorem eg_eq {X : Cx} {scope : Scope} {x k : Str} {j : Nat} {p1 p2 p3 : Pos} (hk : scope.kind = .function) (hl : scope.names.lookup x = some .local) (hd : (x == ("__debug__" : Str)) = false := by decide) :
    EltG X scope x (.Compare (.Name x p1) [.Eq] [.Constant (.str k) j p2] p3) (fun c => [c] == k.cps.toList) :=
  fun en B E' c t z m hs _ _ _ _ hn hm => elt_eq (prog := X.prog) (w := X.w) (scope := scope) hk hl hd en B E' c t z m hs hn hm
/-- x in G, G a text of the module -/
theorem eg_in {X : Cx} {scope : Scope} {x G : Str} {y : Str} {t0 : Tok} {p1 p2 p3 : Pos} (hk : scope.kind = .function) (hl : scope.names.lookup x = some .local) (hG : scope.names.lookup G = some .globalImplicit) (hmG : X.mg G = some (.str y t0))
    (hd : (x == ("__debug__" : Str)) = false := by decide) (hd2 : (G == ("__debug__" : Str)) = false := by decide) :
    EltG X scope x (.Compare (.Name x p1) [.In] [.Name G p2] p3) (fun c => decide (c ∈ y.cps.toList)) := by
  intro en B E' c t z m hs hg hb hns hgl hn hm
  have hkind : en.scope.kind = .function := by rw [hs]; exact hk
  have hkx : en.scope.names.lookup x = some .local := by rw [hs]; exact hl
  have hkG : en.kindOf G = some .globalImplicit := by
    show en.scope.names.lookup G = _
    rw [hs]
    exact hG
  refine wpAny_Compare1 (wpAny_Name (wpAny_loadName_local hkind hkx hn hm ?_) hd) (by rfl)
  refine Calls.Name_function_global hkind hkG (Calls.loadGlobal_global (by rw [hg, hgl]; exact hns.keeps hb) hmG ?_) hd2
  refine PyProof.Rows.in_str ⟨?_, keeps_refl _⟩
  rw [PySem.StrLaws.found_one]
/-- a or b -/
theorem eg_or {X : Cx} {scope : Scope} {x : Str} {a b : Expr} {pa pb : Nat → Bool} {pos : Pos} (ha : EltG X scope x a pa) (hb : EltG X scope x b pb) : EltG X scope x (.BoolOp .Or [a, b] pos) (fun c => pa c || pb c) := by
  intro en B E' c t z m hs hg hbs hns hgl hn hm
  refine BoolOp_or (wpAny_mono (ha en B _ c t z m hs hg hbs hns hgl hn hm) (fun y z' ⟨e, ⟨h', tk, e2, kp⟩⟩ => ?_) fun _ _ e => e)
  subst e
  subst e2
  refine wpAny_truthy_bool ?_
  cases hc : pa c with
  | true => exact ⟨by show _ = Value.bool (pa c || pb c); rw [hc]; rfl, h', tk, rfl, kp⟩
  | false =>
    refine BoolOp_one (wpAny_mono (hb en B E' c t _ m hs hg (fun b o e => kp b o (hbs b o e)) hns hgl (hn.keeps kp) hm) (fun y z' ⟨e, ⟨h2, tk2, e2, kp2⟩⟩ => ?_) fun _ _ e => e)
    subst e
    subst e2
    exact ⟨by show _ = Value.bool (pa c || pb c); rw [hc]; rfl, h2, tk2, rfl, fun b o q => kp2 b o (kp b o q)⟩
end Gr

set_option Elab.async false
set_option maxRecDepth 100000
set_option maxHeartbeats 4000000
set_option linter.all false
/-! Ours: enumerate over a text, with or without a start told by its name; o.f |= e; a def called with keywords alone. -/
namespace Gr
open PySem PySem.Spec PyProof.Rows L2

/-- pairs (c + i, the sign at i) of a text, each a new one -/
def Itx (x : Str) (c : Int) : It := ⟨fun i _ => i < x.cps.size, fun i H v H' => ∃ T d, v = .ref T ∧ H T = none ∧ H' = upd H T (.tup [.int (c + (i : Nat)), .str ⟨#[d]⟩]) ∧ x.cps[i]? = some d, fun i _ => x.cps.size = i⟩
def YTx (x : Str) (c : Int) : Nat → Hp → V → Hp → Prop := fun i H v H' => ∃ T d, v = .ref T ∧ H T = none ∧ H' = upd H T (.tup [.int (c + (i : Nat)), .str ⟨#[d]⟩]) ∧ x.cps[i]? = some d
theorem walk_tx {x : Str} {c : Int} : Walk (Itx x c) x.cps.size (fun _ => True) (YTx x c) :=
  ⟨fun _ _ hi _ => hi, fun _ _ => rfl, fun _ _ _ _ _ _ y => y⟩
theorem turn_tx {P : Program} {w : World} {K : PySem.W.Frag} {elts : List Expr} {kk : Nat} {tpos : Pos} {e it : Addr} {x : Str} {t : Tok} {c : Int} :
    Turn P w K (.Tuple elts kk tpos) (Itx x c) [e, it] e (fun i h => (∃ old, IsEnum h e it (c + (i : Int)) old) ∧ h.IsStrIter it (strIterType x) x t i ∧ e ≠ it) where
  mem := List.mem_cons_self
  obj := by
    rintro i h ⟨⟨old, he⟩, ⟨o, ho, hc, hd⟩, _⟩ b hb
    rcases List.mem_cons.mp hb with z | z
    · rw [z]
      exact ⟨_, he, fun v q => nomatch q⟩
    · rw [List.mem_singleton.mp z]
      exact ⟨o, ho, fun v q => by rw [hd] at q; cases q⟩
  keep := by
    rintro i h h' ⟨⟨old, he⟩, ⟨o, ho, r⟩, ne⟩ k
    exact ⟨⟨old, k e (List.mem_cons_self) _ he⟩, ⟨o, k it (by simp) _ ho, r⟩, ne⟩
  item := by
    intro X hP hw hK hc i pins s σ H E I hf st hg
    subst hP hw hK
    obtain ⟨⟨old, he⟩, hit, ne⟩ := st
    have el : e < s.heap.objs.size := Heap.lt_size he
    have il : it < s.heap.objs.size := let ⟨_, q, _⟩ := hit; Heap.lt_size q
    refine wpAny_pyNext_enum_itemC (Draws.text (A := X.A.in1) (I.ok.hd hc) it x t) he hit hg ne (fun z => ne (List.mem_singleton.mp z)) fun u h' tk hu ho hit' hT hz hk => ?_
    obtain ⟨d, tu, hd, rfl⟩ := hu
    refine ⟨_, rfl, wpAny_letOwnedTupleGo_enum (s := { s with heap := h', toks := tk + 1 }) ho fun h'' he' sb => ?_⟩
    have nT : s.heap.objs.size ≠ e := Nat.ne_of_gt el
    have hT2 : h''.get? s.heap.objs.size = some { cls := .type "tuple", data := .seq #[.int (c + (i : Int)) tk, .str ⟨#[d]⟩ tu] } := (sb.2 _ nT).trans hT
    have new : ObjOk X.prog X.w (upd H s.heap.objs.size (.tup [.int (c + (i : Nat)), .str ⟨#[d]⟩])) h'' s.heap.objs.size (.tup [.int (c + (i : Nat)), .str ⟨#[d]⟩]) :=
      ⟨by show 2 ≤ sizeLine; decide, _, .cons ⟨_, rfl⟩ (.cons ⟨_, rfl⟩ .nil), ⟨_, hT2, rfl, _, rfl⟩⟩
    have I1 : Inv X pins σ (upd H s.heap.objs.size (.tup [.int (c + (i : Nat)), .str ⟨#[d]⟩])) { s with heap := h'', toks := tk + 1 } := by
      refine I.turnedNew (ch := [e, it]) (fun b ob hb q => ?_) hf (Nat.le_refl _) new
      have n1 : b ≠ e := fun z => hb (z ▸ List.mem_cons_self)
      have n2 : b ≠ it := fun z => hb (by rw [z]; exact List.mem_cons_of_mem _ List.mem_cons_self)
      exact (sb.2 b n1).trans (hk b ob n1 n2 q)
    refine ⟨.ref s.heap.objs.size, _, I1, rfl, ⟨_, d, rfl, I.hok.fresh (Nat.le_refl _), rfl, hd⟩, ⟨⟨.str ⟨#[d]⟩ tu, ?_⟩, ?_, ne⟩, fun b hb => ?_⟩
    · have q : c + ((i + 1 : Nat) : Int) = c + (i : Int) + 1 := by omega
      rw [q]
      exact he'
    · obtain ⟨o, q, r⟩ := hit'
      exact ⟨o, (sb.2 it (Ne.symm ne)).trans q, r⟩
    · have lb : b < s.heap.objs.size := by
        rcases List.mem_cons.mp hb with z | z
        · rw [z]
          exact el
        · rw [List.mem_singleton.mp z]
          exact il
      rw [upd_ne (Nat.ne_of_lt lb)]
      exact (hf b hb).1
  done := by
    intro X hP hw hK hc i pins s σ H E I hf st hg
    subst hP hw hK
    obtain ⟨⟨old, he⟩, hit, ne⟩ := st
    have hi : x.cps.size = i := hg
    subst hi
    have D := Draws.text (prog := X.prog) (w := X.w) (A := X.A.in1) (I.ok.hd hc) it x t
    obtain ⟨f0, f1, f2, f3, f4, f5⟩ := hf it (by simp)
    exact wpAny_pyNext_enum_endD D he hit fun h' eb => ⟨rfl, I.turned (t' := s.toks) (fun b o hb q => eb b o hb q) f0 f1 f3 f4 f5⟩
  self := fun A i s Q E ⟨⟨_, he⟩, _⟩ h => wpAny_pyIter_enum he h

/-- enumerate(e), e a text; enumerate(e, start=k) -/
def iEnumS (ta : TA) : TI := fun σ H R => ta σ H fun vs H1 => ∃ x, vs = [.str x] ∧ R (Itx x 0) H1
def iEnumK (ta tk : TA) : TI := fun σ H R => ta σ H fun vs H1 => tk σ H1 fun ks H2 => ∃ x k, vs = [.str x] ∧ ks = [.int k] ∧ -(2 ^ 63) ≤ k ∧ k < 2 ^ 63 ∧ R (Itx x k) H2
section
variable {X : Cx} {e f : Expr} {ta tk : TA} {p pos tpos kpos : Pos} {elts : List Expr} {kk : Nat}
theorem begun_tx {pins : List (Addr × Obj)} {σ : L2.St} {H : Hp} {s : Shared} {R : It → Hp → Prop} {x : Str} {t : Tok} {k : Int} {h' : Heap} (I : Inv X pins σ H s)
    (he : IsEnum h' (s.heap.objs.size + 1) s.heap.objs.size k .none) (hit : h'.IsStrIter s.heap.objs.size (strIterType x) x t 0) (hk : ∀ b o, s.heap.get? b = some o → h'.get? b = some o) (q : R (Itx x k) H) :
    PIE X pins σ (.Tuple elts kk tpos) R (.ref (s.heap.objs.size + 1)) { s with heap := h' } := by
  refine ⟨_, [s.heap.objs.size + 1, s.heap.objs.size], _, _, H, rfl, I.kept (t' := s.toks) hk, turn_tx (x := x) (t := t) (c := k), ⟨⟨.none, ?_⟩, hit, Nat.succ_ne_self _⟩, fun b hb => ?_, q⟩
  · have z : k + ((0 : Nat) : Int) = k := by omega
    rw [z]
    exact he
  · have lb : s.heap.objs.size ≤ b := by
      rcases List.mem_cons.mp hb with z | z
      · rw [z]
        exact Nat.le_succ _
      · rw [List.mem_singleton.mp z]
        exact Nat.le_refl _
    exact I.fpOk lb (I.hok.fresh lb)
theorem pi_enumS (hg : Gl X "enumerate") (hm : X.mg "enumerate" = none) (ha : PA X [e] ta) (hs : starEach [e] X.env = [(false, eval e X.env)] := by rfl) :
    PI X (.Tuple elts kk tpos) (.Call (.Name "enumerate" p) [e] [] pos) (iEnumS ta) := by
  refine ⟨fun pins s σ H R I h => Call_ (ld_blt I hg hm boot_enumerate (PyProof.Rows.callWith_type1 (thn (ha.run pos pins s σ H _ I h) ?_) hs rfl))⟩
  rintro us s1 ⟨vs, H1, I1, r1, x, rfl, q⟩
  obtain ⟨u, rfl, ru⟩ := vals1 r1
  obtain ⟨t, rfl⟩ := ru
  exact call_enumerate_str fun h' he hit _ hk => wpAny_pyIter_enum he (begun_tx I1 he hit hk q)
theorem pi_enumK (hg : Gl X "enumerate") (hm : X.mg "enumerate" = none) (ha : PA X [e] ta) (hk : PK X [⟨some ("start" : Str), f, kpos⟩] tk) (hs : starEach [e] X.env = (false, eval e X.env) :: starEach [] X.env := by rfl)
    (hpl : ((backTo pos (starEach [e] X.env)).any (·.1) || (backToKw pos (keywordEach [⟨some ("start" : Str), f, kpos⟩] X.env)).any (·.1.isNone)) = false := by rfl) :
    PI X (.Tuple elts kk tpos) (.Call (.Name "enumerate" p) [e] [⟨some ("start" : Str), f, kpos⟩] pos) (iEnumK ta tk) := by
  refine ⟨fun pins s σ H R I h => wpAny_Call_Name_kw (ld_blt I hg hm boot_enumerate ?_)⟩
  refine PySem.W.callWith_of (P := fun _ => True) hpl (fun _ _ => ⟨.machine, .inr (.inl rfl), fun {A' Q' E' s'} _ z => wpAny_pure z⟩) (PyProof.Rows.evalArgs_kw2 (by rfl) (thn (ha.run pos pins s σ H _ I h) ?_) hs)
  rintro us s1 ⟨vs, H1, I1, r1, q⟩
  refine thn (hk.run pos pins s1 σ H1 _ I1 q) ?_
  rintro ws s2 ⟨zs, H2, I2, r2, x, k, rfl, rfl, k0, k1, q⟩
  refine ⟨trivial, ?_⟩
  obtain ⟨u, rfl, ru⟩ := vals1 r1
  obtain ⟨t, rfl⟩ := ru
  obtain ⟨u2, rfl, ru2⟩ := vals1 r2
  obtain ⟨t2, rfl⟩ := ru2
  refine enum_begins_start (begins_text x t) trivial k0 k1 fun h' he ho _ hk => wpAny_pyIter_enum he (begun_tx I2 he ⟨_, ho, rfl, rfl⟩ hk q)
end

/-! ### o.f |= e -/
def rOr : V → V → Hp → VK → Prop := fun x y H Q => ∃ i j, x = .int i ∧ y = .int j ∧ Q (.int (Builtin.bitOr i j)) H
theorem in_or {X : Cx} : InOp X .BitOr rOr := by
  rintro pins s σ H x y u v Q I rx ry ⟨i, j, rfl, rfl, q⟩
  obtain ⟨t, rfl⟩ := id rx
  obtain ⟨t', rfl⟩ := id ry
  exact PyProof.Rows.ior_int ⟨.int (Builtin.bitOr i j), H, I.tok _, ⟨_, rfl⟩, q⟩

/-! ### f(k = e, ..) -/
section
variable {X : Cx} {CX : CXT} {k : Nat} {f : Addr} {fd : FuncData} {ps ks : List Str} {sp : Sp} {E : XK} {x : Str} {p pos : Pos} {tk : TA} {g : List Value → List Value → List Value} {gV : List V → List V → List V} {kws : List Keyword}
theorem pe_callK0 (F : FnOk X.prog X.w X.K X.mg X.base CX k f fd ps sp) (hr : Room k X.A) (hg : Gl X x) (hm : X.mg x = some (.ref f)) (hk : PySem.W.keepIn X.K (.ref f) = true) (hb : KBinds X.K fd ps ks g gV) (hx : Passes CX X E) (hkw : PK X kws tk)
    (hall : (backToKw pos (keywordEach kws X.env)).all (·.1.isSome) = true := by rfl) (hks : (backToKw pos (keywordEach kws X.env)).filterMap (·.1) = ks := by rfl) (hdb : (x == ("__debug__" : Str)) = false := by decide)
    (hpl : ((backTo pos (starEach [] X.env)).any (·.1) || (backToKw pos (keywordEach kws X.env)).any (·.1.isNone)) = false := by rfl) :
    PE X (.Call (.Name x p) [] kws pos) (tCallK sp gV E tNil tk) := by
  refine ⟨fun pins s σ H Q I h => wpAny_Call_Name_kw (ld_glob I hg hm ?_ hdb)⟩
  refine PySem.W.callWith_KW0 (h₀ := X.base) I.ok.mod.kin hk hall (thn (hkw.run pos pins s σ H _ I h) ?_) hpl
  rintro ws s2 ⟨zs, H2, I2, rz, q⟩
  refine ⟨I2.kIn, ?_⟩
  rw [hks]
  exact run_fnk F hr hb hx I2 .nil rz q
end
end Gr

set_option Elab.async false
set_option maxRecDepth 100000
set_option maxHeartbeats 2000000
set_option linter.all false
/-! Ours: quiet code: expressions and small defs over data that leave all that stood as it was, whatever frames run around. -/
namespace Gr
open PySem PySem.Spec PyProof.Rows L2 GxR

/-- the value holds the data -/
def Vd (h : Heap) (v : Value) (d : PyData) : Prop := ∃ as, Reads h v d as
theorem Vd.up {h h' : Heap} {v : Value} {d : PyData} (r : Vd h v d) (k : ∀ b o, h.get? b = some o → h'.get? b = some o) : Vd h' v d := let ⟨as, r⟩ := r; ⟨as, PyProof.Rows.Reads.keeps k r⟩
inductive VdAll (h : Heap) : List Value → List PyData → Prop
  | nil : VdAll h [] []
  | cons {v : Value} {vs : List Value} {d : PyData} {ds : List PyData} : Vd h v d → VdAll h vs ds → VdAll h (v :: vs) (d :: ds)
theorem VdAll.up {h h' : Heap} (k : ∀ b o, h.get? b = some o → h'.get? b = some o) : ∀ {vs : List Value} {ds : List PyData}, VdAll h vs ds → VdAll h' vs ds
  | _, _, .nil => .nil
  | _, _, .cons a b => .cons (a.up k) (VdAll.up k b)
theorem VdAll.len {h : Heap} : ∀ {vs : List Value} {ds : List PyData}, VdAll h vs ds → vs.length = ds.length
  | _, _, .nil => rfl
  | _, _, .cons _ b => congrArg (· + 1) (VdAll.len b)
theorem VdAll.get {h : Heap} : ∀ {vs : List Value} {ds : List PyData}, VdAll h vs ds → ∀ {i : Nat} {d : PyData}, ds[i]? = some d → ∃ v, vs[i]? = some v ∧ Vd h v d
  | _, _, .nil, i, d, e => by cases e
  | _, _, .cons a b, 0, d, e => by cases e; exact ⟨_, rfl, a⟩
  | _, _, .cons a b, i + 1, d, e => VdAll.get b e
theorem vd_all {h : Heap} : ∀ {vs : List Value} {ds : List PyData} {as : List Addr}, ReadsAll h vs ds as → VdAll h vs ds
  | _, _, _, .nil => .nil
  | _, _, _, .cons a b => .cons ⟨_, a⟩ (vd_all b)
theorem kk {s s' : Shared} (k : Keeps s s') : ∀ b o, s.heap.get? b = some o → s'.heap.get? b = some o := by
  obtain ⟨h', tk, rfl, q⟩ := k
  exact q
theorem kt {s s' s'' : Shared} (k : Keeps s s') (k' : Keeps s' s'') : Keeps s s'' := by
  obtain ⟨h', tk, rfl, q⟩ := k
  obtain ⟨h2, t2, rfl, q2⟩ := k'
  exact ⟨h2, t2, rfl, fun b o e => q2 b o (q b o e)⟩
theorem Keeps.ns {s s' : Shared} (k : Keeps s s') {L : Addr} {m : Str → Option Value} (h : s.heap.Ns L m) : s'.heap.Ns L m := h.keeps (kk k)

/-- where quiet code stands -/
structure Qc (K : PySem.W.Frag) (mg : Str → Option Value) (base : Heap) (env : Env) : Prop where
  mod : Mod K mg base
  kind : env.scope.kind = .function
  glob : env.globals = mainGlobals
  blt : env.builtins = builtinsNs

/-- what quiet code asks of the state that it runs in -/
structure Qs (base h0 : Heap) (k : Nat) (env : Env) (m : Str → Option Value) (B : Around) (z : Shared) : Prop where
  room : Room k B
  bs : ∀ b o, base.get? b = some o → z.heap.get? b = some o
  up : ∀ b o, h0.get? b = some o → z.heap.get? b = some o
  ns : z.heap.Ns env.locals m
theorem Qs.next {base h0 : Heap} {k : Nat} {env : Env} {m : Str → Option Value} {B : Around} {z z' : Shared} (q : Qs base h0 k env m B z) (e : Keeps z z') : Qs base h0 k env m B z' :=
  ⟨q.room, fun b o x => kk e b o (q.bs b o x), fun b o x => kk e b o (q.up b o x), Keeps.ns e q.ns⟩

section
variable {P : Program} {w : World} {K : PySem.W.Frag} {mg : Str → Option Value} {base h0 : Heap} {k : Nat} {env : Env} {m : Str → Option Value}
/-- e tells d -/
def QE (P : Program) (w : World) (base h0 : Heap) (k : Nat) (env : Env) (m : Str → Option Value) (e : Expr) (d : PyData) : Prop :=
  ∀ (B : Around) (E : Value → Shared → Prop) (z : Shared), Qs base h0 k env m B z → wpAny (model P w) B (eval e env) (fun y z' => Vd z'.heap y d ∧ Keeps z z') E z
def QEs (P : Program) (w : World) (base h0 : Heap) (k : Nat) (env : Env) (m : Str → Option Value) (es : List Expr) (ds : List PyData) : Prop :=
  ∀ (B : Around) (E : Value → Shared → Prop) (z : Shared) (pos : Pos), Qs base h0 k env m B z → wpAny (model P w) B (spliced (backTo pos (starEach es env))) (fun us z' => VdAll z'.heap us ds ∧ Keeps z z') E z
theorem vd_bool {h : Heap} {y : Value} {b : Bool} (r : Vd h y (.bool b)) : y = .bool b := by
  obtain ⟨as, r⟩ := r
  cases r
  rfl
theorem vd_int {h : Heap} {y : Value} {i : Int} (r : Vd h y (.int i)) : ∃ t, y = .int i t := by
  obtain ⟨as, r⟩ := r
  cases r
  exact ⟨_, rfl⟩
theorem vd_tup {h : Heap} {y : Value} {ds : List PyData} (r : Vd h y (.tuple ds)) : ∃ t its, y = .ref t ∧ IsTup h t its ∧ VdAll h its.toList ds := by
  obtain ⟨as, r⟩ := r
  cases r with
  | tuple h1 h2 h3 h4 => exact ⟨_, _, rfl, ⟨_, h1, h2, _, h3⟩, vd_all h4⟩

theorem qe_name {x : Str} {p : Pos} {v : Value} {d : PyData} (C : Qc K mg base env) (hl : env.scope.names.lookup x = some .local) (hm : m x = some v) (hv : Vd h0 v d) (hd : (x == ("__debug__" : Str)) = false := by decide) :
    QE P w base h0 k env m (.Name x p) d := fun B E z q =>
  wpAny_Name (wpAny_loadName_local C.kind hl q.ns hm ⟨hv.up q.up, keeps_refl _⟩) hd
theorem qe_int {i : Int} {j : Nat} {p : Pos} : QE P w base h0 k env m (.Constant (.int i) j p) (.int i) := fun B E z q =>
  wpAny_Constant_int ⟨⟨_, .int _ _⟩, keeps_tok _ _⟩
theorem q_glob {B : Around} {E : Value → Shared → Prop} {z : Shared} {x : Str} {u : Value} {p : Pos} {Q : Value → Shared → Prop} (C : Qc K mg base env) (q : Qs base h0 k env m B z) (hg : env.scope.names.lookup x = some .globalImplicit) (hm : mg x = some u) (h : Q u z) (hd : (x == ("__debug__" : Str)) = false := by decide) :
    wpAny (model P w) B (eval (.Name x p) env) Q E z :=
  Calls.Name_function_global C.kind hg (Calls.loadGlobal_global (by rw [C.glob]; exact C.mod.glob.keeps q.bs) hm h) hd
theorem q_blt {B : Around} {E : Value → Shared → Prop} {z : Shared} {x : Str} {u : Value} {p : Pos} {Q : Value → Shared → Prop} (C : Qc K mg base env) (q : Qs base h0 k env m B z) (hg : env.scope.names.lookup x = some .globalImplicit) (hm : mg x = none) (hv : bootBuiltins x = some u) (h : Q u z)
    (hn : x ≠ "__name__" := by decide) (hd : (x == ("__debug__" : Str)) = false := by decide) : wpAny (model P w) B (eval (.Name x p) env) Q E z := by
  obtain ⟨mb, h1, h2⟩ := C.mod.blt
  exact Calls.Name_function_global C.kind hg (Calls.loadGlobal_builtin (by rw [C.glob]; exact C.mod.glob.keeps q.bs) hm (by rw [C.blt]; exact h1.keeps q.bs) ((h2 x hn).trans hv) h) hd
/-- a whole number of the module -/
theorem qe_gint {x : Str} {p : Pos} {i : Int} {t : Tok} (C : Qc K mg base env) (hg : env.scope.names.lookup x = some .globalImplicit) (hm : mg x = some (.int i t)) (hd : (x == ("__debug__" : Str)) = false := by decide) :
    QE P w base h0 k env m (.Name x p) (.int i) := fun B E z q => q_glob C q hg hm ⟨⟨_, .int _ _⟩, keeps_refl _⟩ hd

theorem qes_nil : QEs P w base h0 k env m [] [] := fun B E z pos q => Calls.spliced_nil ⟨.nil, keeps_refl _⟩
theorem qes_cons {e : Expr} {es : List Expr} {d : PyData} {ds : List PyData} (h1 : QE P w base h0 k env m e d) (h2 : QEs P w base h0 k env m es ds) (hs : starEach (e :: es) env = (false, eval e env) :: starEach es env := by rfl) :
    QEs P w base h0 k env m (e :: es) (d :: ds) := by
  intro B E z pos q
  rw [hs]
  show wpAny _ _ (spliced ((false, eval e env) :: backTo pos (starEach es env))) _ _ z
  refine Calls.spliced_cons (thn (h1 B E z q) fun u z1 ⟨r1, k1⟩ => ?_)
  exact thn (h2 B E z1 pos (q.next k1)) fun us z2 ⟨r2, k2⟩ => ⟨.cons (r1.up (kk k2)) r2, kt k1 k2⟩

/-- isinstance(e, T) -/
theorem qe_isi {e : Expr} {T : Str} {T' : String} {p1 p2 pos : Pos} {d : PyData} {f : PyData → Bool} (C : Qc K mg base env) (he : QE P w base h0 k env m e d) (hg : env.scope.names.lookup ("isinstance" : Str) = some .globalImplicit) (hm : mg "isinstance" = none)
    (hgT : env.scope.names.lookup T = some .globalImplicit) (hmT : mg T = none) (hvT : bootBuiltins T = some (.type T')) (hT1 : T ≠ "__name__") (hT2 : (T == ("__debug__" : Str)) = false)
    (hi : ∀ {A : Around} {E : Value → Shared → Prop} {s : Shared} {v : Value} {d : PyData} {as : List Addr} {Q : Value → Shared → Prop}, Reads s.heap v d as → (∀ tk, s.toks ≤ tk → Q (.bool (f d)) { s with toks := tk }) → wpAny (model P w) A (call (.builtin "isinstance") [v, .type T']) Q E s)
    (hb : bootBuiltins "isinstance" = some (.builtin "isinstance") := by decide +kernel)
    (hs : starEach [e, .Name T p2] env = (false, eval e env) :: starEach [.Name T p2] env := by rfl) (hs2 : starEach [.Name T p2] env = (false, eval (.Name T p2) env) :: starEach [] env := by rfl)
    (hpl : (backTo pos (starEach [.Name T p2] env)).any (·.1) = false := by rfl) :
    QE P w base h0 k env m (.Call (.Name "isinstance" p1) [e, .Name T p2] [] pos) (.bool (f d)) := by
  intro B E z q
  refine wpAny_Call_Name_kw (q_blt C q hg hm hb (PyProof.Rows.callWith_builtin1 ?_ hs hpl))
  rw [hs]
  show wpAny _ _ (spliced ((false, eval e env) :: backTo pos (starEach [.Name T p2] env))) _ _ z
  refine Calls.spliced_cons (thn (he B E z q) fun u z1 ⟨r1, k1⟩ => ?_)
  rw [hs2]
  show wpAny _ _ (spliced ((false, eval (.Name T p2) env) :: backTo pos (starEach [] env))) _ _ z1
  refine Calls.spliced_cons (q_blt C (q.next k1) hgT hmT hvT (Calls.spliced_nil ?_) hT1 hT2)
  obtain ⟨as, r1⟩ := r1
  exact hi r1 fun tk _ => ⟨⟨_, .bool _⟩, kt k1 (keeps_tok _ _)⟩
/-- len(e), e a tuple -/
theorem qe_len {e : Expr} {p1 pos : Pos} {ds : List PyData} (C : Qc K mg base env) (he : QE P w base h0 k env m e (.tuple ds)) (hg : env.scope.names.lookup ("len" : Str) = some .globalImplicit) (hm : mg "len" = none) (hl : ds.length ≤ sizeLine)
    (hs : starEach [e] env = (false, eval e env) :: starEach [] env := by rfl) (hpl : (backTo pos (starEach [] env)).any (·.1) = false := by rfl) :
    QE P w base h0 k env m (.Call (.Name "len" p1) [e] [] pos) (.int ds.length) := by
  intro B E z q
  refine wpAny_Call_Name_kw (q_blt C q hg hm PySem.boot_len (PyProof.Rows.callWith_builtin1 ?_ hs hpl))
  rw [hs]
  show wpAny _ _ (spliced ((false, eval e env) :: backTo pos (starEach [] env))) _ _ z
  refine Calls.spliced_cons (thn (he B E z q) fun u z1 ⟨r1, k1⟩ => Calls.spliced_nil ?_)
  obtain ⟨t, its, rfl, ht, ha⟩ := vd_tup r1
  have hn := line63
  have hz : its.size = ds.length := by
    have := ha.len
    rw [← this, Array.length_toList]
  refine len_tuple ht (by rw [hz]; omega) ⟨?_, kt k1 (keeps_tok _ _)⟩
  rw [hz]
  exact ⟨_, .int _ _⟩
/-- e[i] -/
theorem qe_ix {e : Expr} {i : Nat} {j : Nat} {p pos : Pos} {ds : List PyData} {d : PyData} (he : QE P w base h0 k env m e (.tuple ds)) (hi : ds[i]? = some d) (hl : ds.length ≤ sizeLine) : QE P w base h0 k env m (.Subscript e (.Constant (.int i) j p) pos) d := by
  intro B E z q
  refine Subscript_ (thn (he B E z q) fun u z1 ⟨r1, k1⟩ => wpAny_Constant_int ?_)
  obtain ⟨t, its, rfl, ht, ha⟩ := vd_tup r1
  have hn := line63
  have hz : its.size = ds.length := by
    have := ha.len
    rw [← this, Array.length_toList]
  obtain ⟨hi1, _⟩ := List.getElem?_eq_some_iff.mp hi
  obtain ⟨v, hv, rv⟩ := ha.get hi
  have hv' : its[i]? = some v := by rw [← Array.getElem?_toList]; exact hv
  have hj : seqIndex? (i : Int) its.size = some i := by
    unfold seqIndex?
    have h1 : ¬ ((i : Int) < 0) := by omega
    have h2 : (0 : Int) ≤ (i : Int) ∧ (i : Int) < (its.size : Int) := by omega
    simp [h1, h2]
  refine subscriptTail_builtinR (x := v) ht.typeIs slot_tuple_getitem.lookup (getItem_tuple (j := i) (Q := fun r s' => r = v ∧ (Vd s'.heap r d ∧ Keeps z s')) ht (by omega) (by omega) hj hv' ⟨rfl, rv, kt k1 (keeps_tok _ _)⟩)
/-- a op b of whole numbers -/
theorem qe_cmp {a b : Expr} {op : CmpOp} {i j : Int} {c : Int → Int → Bool} {pos : Pos} (ha : QE P w base h0 k env m a (.int i)) (hb : QE P w base h0 k env m b (.int j))
    (ho : ∀ {A : Around} {E : Value → Shared → Prop} {s : Shared} {t u : Tok} {Q : Value → Shared → Prop}, Q (.bool (c i j)) s → wpAny (model P w) A (compareOp op (.int i t) (.int j u)) Q E s) (hm : behindInMarks op b = false := by with_unfolding_all rfl) :
    QE P w base h0 k env m (.Compare a [op] [b] pos) (.bool (c i j)) := by
  intro B E z q
  refine wpAny_Compare1 (thn (ha B E z q) fun u z1 ⟨r1, k1⟩ => thn (hb B E z1 (q.next k1)) fun v z2 ⟨r2, k2⟩ => ?_) hm
  obtain ⟨t, rfl⟩ := vd_int r1
  obtain ⟨t', rfl⟩ := vd_int r2
  exact ho ⟨⟨_, .bool _⟩, kt k1 k2⟩
/-- a op b op' c -/
theorem qe_chain {a b c : Expr} {op op' : CmpOp} {i j l : Int} {f g : Int → Int → Bool} {pos : Pos} (ha : QE P w base h0 k env m a (.int i)) (hb : QE P w base h0 k env m b (.int j)) (hc : QE P w base h0 k env m c (.int l))
    (ho : ∀ {A : Around} {E : Value → Shared → Prop} {s : Shared} {t u : Tok} {Q : Value → Shared → Prop}, Q (.bool (f i j)) s → wpAny (model P w) A (compareOp op (.int i t) (.int j u)) Q E s)
    (ho' : ∀ {A : Around} {E : Value → Shared → Prop} {s : Shared} {t u : Tok} {Q : Value → Shared → Prop}, Q (.bool (g j l)) s → wpAny (model P w) A (compareOp op' (.int j t) (.int l u)) Q E s)
    (hm : lastMarks [op, op'] [b, c] = false := by with_unfolding_all rfl) : QE P w base h0 k env m (.Compare a [op, op'] [b, c] pos) (.bool (f i j && g j l)) := by
  intro B E z q
  refine Compare_chain (thn (ha B E z q) fun u z1 ⟨r1, k1⟩ => chain_link (thn (hb B E z1 (q.next k1)) fun v z2 ⟨r2, k2⟩ => ?_)) hm
  obtain ⟨t, rfl⟩ := vd_int r1
  obtain ⟨t', rfl⟩ := vd_int r2
  refine ho (wpAny_truthy_bool ?_)
  cases f i j with
  | false => exact ite_ff ⟨⟨_, .bool _⟩, kt k1 k2⟩
  | true =>
    refine ite_tt (chain_last (thn (hc B E z2 ((q.next k1).next k2)) fun x z3 ⟨r3, k3⟩ => ?_))
    obtain ⟨t3, rfl⟩ := vd_int r3
    refine ho' ⟨?_, kt k1 (kt k2 k3)⟩
    rw [Bool.true_and]
    exact ⟨_, .bool _⟩
theorem qe_one {e : Expr} {op : BoolOp} {pos : Pos} {d : PyData} (h : QE P w base h0 k env m e d) : QE P w base h0 k env m (.BoolOp op [e] pos) d := fun B E z q => BoolOp_one (h B E z q)
theorem qe_and {a b : Expr} {rest : List Expr} {x y : Bool} {pos : Pos} (ha : QE P w base h0 k env m a (.bool x)) (hb : x = true → QE P w base h0 k env m (.BoolOp .And (b :: rest) pos) (.bool y)) :
    QE P w base h0 k env m (.BoolOp .And (a :: b :: rest) pos) (.bool (x && y)) := by
  intro B E z q
  refine BoolOp_and (thn (ha B E z q) fun u z1 ⟨r1, k1⟩ => ?_)
  cases vd_bool r1
  refine wpAny_truthy_bool ?_
  cases x with
  | false => exact ite_ff ⟨⟨_, .bool _⟩, k1⟩
  | true => exact ite_tt (thn (hb rfl B E z1 (q.next k1)) fun v z2 ⟨r2, k2⟩ => ⟨r2, kt k1 k2⟩)
theorem qe_or {a b : Expr} {rest : List Expr} {x y : Bool} {pos : Pos} (ha : QE P w base h0 k env m a (.bool x)) (hb : x = false → QE P w base h0 k env m (.BoolOp .Or (b :: rest) pos) (.bool y)) :
    QE P w base h0 k env m (.BoolOp .Or (a :: b :: rest) pos) (.bool (x || y)) := by
  intro B E z q
  refine BoolOp_or (thn (ha B E z q) fun u z1 ⟨r1, k1⟩ => ?_)
  cases vd_bool r1
  refine wpAny_truthy_bool ?_
  cases x with
  | true => exact ite_tt ⟨⟨_, .bool _⟩, k1⟩
  | false => exact ite_ff (thn (hb rfl B E z1 (q.next k1)) fun v z2 ⟨r2, k2⟩ => ⟨r2, kt k1 k2⟩)
theorem qe_not {a : Expr} {x : Bool} {pos : Pos} (ha : QE P w base h0 k env m a (.bool x)) : QE P w base h0 k env m (.UnaryOp .Not a pos) (.bool (!x)) := by
  intro B E z q
  refine UnaryOp_ (thn (ha B E z q) fun u z1 ⟨r1, k1⟩ => ?_)
  cases vd_bool r1
  exact not_of (wpAny_truthy_bool ⟨⟨_, .bool _⟩, k1⟩)
end

/-- a quiet def: whatever runs around, it tells d of the data ds -/
structure QF (P : Program) (w : World) (K : PySem.W.Frag) (mg : Str → Option Value) (base : Heap) (k : Nat) (f : Addr) (fd : FuncData) (ps : List Str) (pre : List PyData → PyData → Prop) : Prop where
  len : ∀ ds d, pre ds d → ds.length = ps.length
  run : ∀ (B : Around) (z : Shared) (args : Args) (us : List Value) (ds : List PyData) (d : PyData), Room k B → (∀ b o, base.get? b = some o → z.heap.get? b = some o) → BindsTo z fd args (ps.zip us) → VdAll z.heap us ds → pre ds d →
    codeAny (model P w) B (.call (.ref f) args) (fun r z' => ∃ y, r = .ok (.ret y) ∧ Vd z'.heap y d ∧ Keeps z z') z
section
variable {P : Program} {w : World} {K : PySem.W.Frag} {mg : Str → Option Value} {base : Heap}
/-- a def of one return, by its expression -/
theorem qf_of {k : Nat} {x ql : Str} {st : Stmt} {f : Addr} {fd : FuncData} {ps : List Str} {pre : List PyData → PyData → Prop} {e : Expr} {pos : Pos} (M : Mod K mg base) (F : Fun K x ql st f fd) (S : FnScope ps ps (defScope st)) (loc : ∀ y ∈ ps, (defScope st).names.lookup y = some .local) (bd : defBody st = [.Return (some e) pos])
    (len : ∀ ds d, pre ds d → ds.length = ps.length)
    (hb : ∀ (env : Env) (m : Str → Option Value) (h0 : Heap) (us : List Value) (ds : List PyData) (d : PyData), env.scope = defScope st → Qc K mg base env → (∀ (i : Nat) (y : Str) (v : Value), ps[i]? = some y → us[i]? = some v → m y = some v) → VdAll h0 us ds → pre ds d → QE P w base h0 k env m e d) :
    QF P w K mg base (k + 1) f fd ps pre := by
  refine ⟨len, fun B z args us ds d hr hbs hbi hv hp => ?_⟩
  obtain ⟨oc, od, kV, doc, pm, an, cdv, ct, osl, rfl, lk, hcd⟩ := F.ex
  have KX : K.In z.heap := M.kin.keeps hbs
  have lim : z.heap.NoLimit := M.nolimit.keeps hbs
  have hlen := len _ _ hp
  have hul : us.length = ps.length := hv.len.trans hlen
  refine codeAny_call_function hr.depth (KX _ _ lk) rfl S.co S.gen rfl (PySem.W.codeRec_of KX hcd) (hbi _ _ _ _ ?_)
  refine wpAny_newFunctionEnv_cells S.kind (fun ⟨n, v⟩ hy => .inl (loc n (List.of_mem_zip hy).1)) fun env he s1 x => ?_
  subst he
  refine ⟨lim.keeps x.toInCall.keep, codeAny_func ?_⟩
  have hk : Keeps z s1 := x.done
  show wpAny _ _ (execs (defBody st) _) _ _ s1
  rw [bd]
  refine wpAny_execs_cons (wpAny_Return_some ?_)
  refine thn (hb _ _ z.heap us ds d rfl ⟨M, S.kind, rfl, rfl⟩ (fun i y v h1 h2 => bindL_get S.nd h1 h2 (loc y (List.mem_of_getElem? h1))) hv hp (B.deeper _) _ s1 ⟨hr.deeper _, fun b o q => kk hk b o (hbs b o q), kk hk, x.toInCall.ns⟩) fun y z2 ⟨r2, k2⟩ => ?_
  exact ⟨y, rfl, r2, kt hk k2⟩
/-- f(e, ..) of a quiet def -/
theorem qe_call {h0 : Heap} {k : Nat} {env : Env} {m : Str → Option Value} {x : Str} {f : Addr} {fd : FuncData} {ps : List Str} {pre : List PyData → PyData → Prop} {e : Expr} {es : List Expr} {ds : List PyData} {d : PyData} {p pos : Pos} (C : Qc K mg base env) (F : QF P w K mg base k f fd ps pre)
    (hg : env.scope.names.lookup x = some .globalImplicit) (hm : mg x = some (.ref f)) (hk : PySem.W.keepIn K (.ref f) = true) (hb : Binds K fd ps []) (ha : QEs P w base h0 k env m (e :: es) ds) (hp : pre ds d) (hdb : (x == ("__debug__" : Str)) = false := by decide)
    (he : starEach (e :: es) env = (false, eval e env) :: starEach es env := by rfl) (hpl : (backTo pos (starEach es env)).any (·.1) = false := by rfl) : QE P w base h0 k env m (.Call (.Name x p) (e :: es) [] pos) d := by
  intro B E z q
  refine wpAny_Call_Name_kw (q_glob C q hg hm (PySem.W.callWith_K (h₀ := base) C.mod.kin hk (thn (ha B E z pos q) fun us z1 ⟨r1, k1⟩ => ⟨C.mod.kin.keeps (q.next k1).bs, ?_⟩) he hpl) hdb)
  have hl : (us ++ []).length = ps.length := by
    rw [List.append_nil, r1.len]
    exact F.len _ _ hp
  refine wpAny_call (codeAny_mono (F.run B z1 ⟨us, []⟩ (us ++ []) ds d q.room (q.next k1).bs (hb z1 us (C.mod.kin.keeps (q.next k1).bs) hl) (by rw [List.append_nil]; exact r1) hp) fun r z2 h => ?_)
  obtain ⟨y, rfl, r2, k2⟩ := h
  exact ⟨r2, kt k1 k2⟩
end
end Gr

set_option Elab.async false
set_option maxRecDepth 100000
set_option maxHeartbeats 2000000
set_option linter.all false
/-! Ours: all(..), any(..) of a generator expression over a tuple whose element is quiet: it may call quiet defs. -/
namespace Gr
open PySem PySem.Spec PyProof.Rows L2 GxR
mutual
/-- data that is read does not stand at an object that is of no class -/
theorem reads_but {h h' : Heap} {P : Addr} {o0 : Obj} (k : ∀ b o, b ≠ P → h.get? b = some o → h'.get? b = some o) (p0 : h.get? P = some o0) (c0 : o0.cls = .none) : ∀ {v : Value} {d : PyData} {as : List Addr}, Reads h v d as → Reads h' v d as
  | _, _, _, .none => .none
  | _, _, _, .bool b => .bool b
  | _, _, _, .int i t => .int i t
  | _, _, _, .str x t => .str x t
  | _, _, _, .list h1 h2 h3 h4 => .list (k _ _ (fun e => by rw [e, p0] at h1; cases h1; rw [c0] at h2; cases h2) h1) h2 h3 (readsAll_but k p0 c0 h4)
  | _, _, _, .tuple h1 h2 h3 h4 => .tuple (k _ _ (fun e => by rw [e, p0] at h1; cases h1; rw [c0] at h2; cases h2) h1) h2 h3 (readsAll_but k p0 c0 h4)
  | _, _, _, .dict h1 h2 h3 h4 h5 => .dict (k _ _ (fun e => by rw [e, p0] at h1; cases h1; rw [c0] at h2; cases h2) h1) h2 h3 (readsAll_but k p0 c0 h4) (readsAll_but k p0 c0 h5)
theorem readsAll_but {h h' : Heap} {P : Addr} {o0 : Obj} (k : ∀ b o, b ≠ P → h.get? b = some o → h'.get? b = some o) (p0 : h.get? P = some o0) (c0 : o0.cls = .none) : ∀ {vs : List Value} {ds : List PyData} {as : List Addr}, ReadsAll h vs ds as → ReadsAll h' vs ds as
  | _, _, _, .nil => .nil
  | _, _, _, .cons a b => .cons (reads_but k p0 c0 a) (readsAll_but k p0 c0 b)
end
/-- a tuple's length has a bound -/
def szD : PyData → Prop
  | .tuple es => es.length ≤ sizeLine
  | _ => True
theorem DqAll.len {K : PySem.W.Frag} {H : Hp} {vs : List V} {ds : List PyData} (h : DqAll K H vs ds) : vs.length = ds.length :=
  DqAll.rec (motive_1 := fun _ _ _ => True) (motive_2 := fun vs ds _ => vs.length = ds.length) trivial (fun _ => trivial) (fun _ => trivial) (fun _ => trivial) (fun _ _ _ => trivial) (fun _ _ _ => trivial) (fun _ _ _ _ _ => trivial) rfl (fun _ _ _ ih => congrArg (· + 1) ih) h
/-- the element over the data d -/
def EltD (X : Cx) (k : Nat) (scope : Scope) (x : Str) (elt : Expr) (pb : PyData → Bool) : Prop :=
  ∀ (en : Env) (m : Str → Option Value) (h0 : Heap) (v : Value) (d : PyData), en.scope = scope → Qc X.K X.mg X.base en → m x = some v → Vd h0 v d → szD d → QE X.prog X.w X.base h0 k en m elt (.bool (pb d))
def trD (pb : PyData → Bool) (l : List PyData) (j : Nat) : Bool := match l[j]? with
  | some d => pb d
  | none => false
theorem trD_all (pb : PyData → Bool) : ∀ l : List PyData, (List.range l.length).all (trD pb l) = l.all pb
  | [] => rfl
  | d :: l => by
    have e : (d :: l).length = l.length + 1 := rfl
    rw [e, List.range_succ_eq_map, List.all_cons, List.all_map, List.all_cons, ← trD_all pb l]
    rfl
theorem trD_any (pb : PyData → Bool) : ∀ l : List PyData, (List.range l.length).any (trD pb l) = l.any pb
  | [] => rfl
  | d :: l => by
    have e : (d :: l).length = l.length + 1 := rfl
    rw [e, List.range_succ_eq_map, List.any_cons, List.any_map, List.any_cons, ← trD_any pb l]
    rfl
section
variable {X : Cx} {pins : List (Addr × Obj)} {σ : L2.St} {H : Hp} {s : Shared}
theorem Dq.sz (I : Inv X pins σ H s) {v : V} {d : PyData} (h : Dq X.K H v d) : szD d := by
  cases h with
  | tup hs ha =>
    obtain ⟨its, r, pl, hz⟩ := I.tuple hs
    show _ ≤ sizeLine
    rw [← ha.len]
    exact hz
  | _ => trivial
theorem DqAll.szs (I : Inv X pins σ H s) {vs : List V} {ds : List PyData} (h : DqAll X.K H vs ds) : ∀ d ∈ ds, szD d :=
  DqAll.rec (motive_1 := fun v d _ => szD d) (motive_2 := fun vs ds _ => ∀ d ∈ ds, szD d) trivial (fun _ => trivial) (fun _ => trivial) (fun _ => trivial) (fun _ _ _ => trivial) (fun hs ha _ => Dq.sz I (.tup hs ha)) (fun _ _ _ _ _ => trivial) (fun d hd => nomatch hd)
    (fun _ _ i1 i2 d hd => by
      rcases List.mem_cons.mp hd with e | e
      · rw [e]; exact i1
      · exact i2 d e) h
/-- the generator g over the data ds, ready to be walked -/
def ReadyD (X : Cx) (pins : List (Addr × Obj)) (σ : L2.St) (H1 : Hp) (P : Addr) (ds : List PyData) (pb : PyData → Bool) (g : Addr) (s5 : Shared) : Prop :=
  ∃ (fp wr : List Addr) (G : Array GenState → Array GenState → Prop) (F : Nat → Value → Prop) (S : Nat → Shared → Prop),
    WalksS X.prog X.w X.A.in1 g fp wr G ds.length F S ∧ S 0 s5 ∧ TruthOf X.prog X.w X.A.in1 F (trD pb ds) ∧ ∀ s', Moved wr G s5 s' → ∃ H2, Tabbed P H1 H2 ∧ Inv X pins σ H2 s'
theorem genD {c P : Addr} {elt iter : Expr} {x : Str} {px gpos : Pos} {scope : Scope} {pb : PyData → Bool} {te : TE} {k : Nat} {W : Value → Shared → Prop} {R : List PyData → Hp → Prop}
    (hr : Room (k + 1) X.A) (TB : TabB X.base X.mg c P) (hcode : X.env.code = .ref c) (S : GenS X.env scope x) (hi : PE X iter te) (hel : EltD X k scope x elt pb)
    (hs : ∀ v, genFold iter X.env v = pure v) (I : Inv X pins σ H s) (h : te σ H fun v H1 => ∃ ds, Dq X.K H1 v (.tuple ds) ∧ TabG H1 P ∧ R ds H1)
    (hQ : ∀ ds H1 g z, R ds H1 → ReadyD X pins σ H1 P ds pb g z → W (.ref g) z) :
    wpAny (model X.prog X.w) X.A (eval (.GeneratorExp elt [⟨.Name x px, iter, [], 0⟩] scope gpos) X.env) W X.xe s := by
  refine wpAny_GeneratorExp_walksQD hr.hd S.co (closure_ok S.free) S.cell S.dot S.loc S.kind hr.depth (thn (hi.run pins s σ H _ I h) ?_) hs
  rintro xv s1 ⟨v, H1, I1, r1, ds, hd, ⟨ps, hP, ht⟩, q1⟩
  obtain ⟨asv, rv, _⟩ := hd.reads I1 xv r1
  obtain ⟨tt, its, rfl, hit, hva⟩ := vd_tup ⟨asv, rv⟩
  have hsz : its.size = ds.length := by rw [← hva.len, Array.length_toList]
  have szs : ∀ d ∈ ds, szD d := by
    cases hd with
    | tup hs2 ha2 => exact DqAll.szs I1 ha2
  have tlt : tt < s1.heap.objs.size := let ⟨_, e, _⟩ := hit; Heap.lt_size e
  refine wpAny_pyIter_tuple hit ⟨I1.nolimit.push _, code_then I1 TB hcode hP ht fun cv h3 tk more up lt hp ht' lim => ?_⟩
  have p0 : s1.heap.get? P = some { cls := .none, data := .fields ps } := I1.hok P _ hP
  have pl : P < s1.heap.objs.size := Heap.lt_size p0
  have at1 : ∀ b, b ∈ [s1.heap.objs.size] → b = s1.heap.objs.size := fun b hb => List.mem_singleton.mp hb
  have cl : cStatics < s1.heap.objs.size := let ⟨_, n, _⟩ := I1.nolimit; n.lt
  have tP : tt ≠ P := fun e => by
    obtain ⟨o, e1, e2, _⟩ := hit
    rw [e, p0] at e1
    cases e1
    cases e2
  have up0 : ∀ b u, b ≠ P → s1.heap.get? b = some u → h3.get? b = some u := fun b u n e => up b u n (Heap.get?_push_of_some _ e)
  have tn : tt ≠ s1.heap.objs.size := Nat.ne_of_lt tlt
  refine ⟨s1.heap.objs.size, [s1.heap.objs.size, tt], [s1.heap.objs.size], its.size, (fun i v => its[i]? = some v), (fun i h => h.IsTupleIter s1.heap.objs.size tt i ∧ h.IsTuple tt its), fun _ => true, fun i y => ∃ d, ds[i]? = some d ∧ y = .bool (pb d), rfl,
    fun A' hh => Walks.tuple hh _ _ tn its, ⟨⟨_, up _ _ (fun e => ?_) (Heap.get?_push_size _ rfl), rfl, rfl⟩, ?_⟩, fun b hb => ?_, lim, fun z => ?_, fun href hh => ?_, ?_⟩
  · rw [← e] at pl
    exact Nat.lt_irrefl _ pl
  · obtain ⟨o, e1, e2⟩ := hit
    exact ⟨o, up0 _ _ tP e1, e2⟩
  · rcases List.mem_cons.mp hb with e | e
    · rw [e]; exact lt
    · rw [List.mem_singleton.mp e]
      exact Nat.lt_trans tlt lt
  · rw [at1 _ z] at cl
    exact Nat.lt_irrefl _ cl
  · constructor
    · intro B E' i v z m _ _ _ _ _ _ _
      rw [List.forIn_nil]
      exact wpAny_pure ⟨rfl, keeps_refl _⟩
    · intro B E' i v z m hB hD hU hv _ hn hm hk
      have hi2 : i < ds.length := by
        have := (Array.getElem?_eq_some_iff.mp hv).1
        omega
      have hdi : ds[i]? = some ds[i] := List.getElem?_eq_getElem hi2
      obtain ⟨v', hv', rv'⟩ := hva.get hdi
      have ev : v' = v := by
        rw [Array.getElem?_toList, hv] at hv'
        exact (Option.some.inj hv').symm
      rw [ev] at rv'
      have keepA : ∀ b o, b ≠ P → s1.heap.get? b = some o → z.heap.get? b = some o := fun b o nb e => by
        have lb : b < s1.heap.objs.size := Heap.lt_size e
        refine hk b (List.mem_range.mpr (Nat.lt_trans lb lt)) (fun q => ?_) _ (hh _ _ (up0 b o nb e))
        rw [at1 b q] at lb
        exact Nat.lt_irrefl _ lb
      have room : Room k B := ⟨hB, by have := hr.dp; omega, by have := hr.un; omega⟩
      -- what is read of the element stands in z's heap
      have rz : Vd z.heap v ds[i] := by
        obtain ⟨as2, r2⟩ := rv'
        exact ⟨as2, reads_but keepA p0 rfl r2⟩
      refine thn (hel _ m z.heap v ds[i] rfl ⟨I1.mod, S.kind, ?_, rfl⟩ hm rz (szs _ (List.getElem_mem hi2)) B E' z ⟨room, fun b o e => ?_, fun _ _ e => e, hn⟩) fun y z' r => ⟨⟨_, hdi, vd_bool r.1⟩, r.2⟩
      · exact I1.ok.glob
      · obtain ⟨e1, e2⟩ := I1.bs b o e
        exact keepA b o (fun q => by rw [q, hP] at e2; cases e2) e1
  · intro g h5 tk5 gs gb ag sz5 k5 W5 hat
    simp only [GxR.passing_true, List.length_range] at W5
    rw [hsz] at W5 hat
    refine hQ ds H1 g _ q1 ⟨_, _, _, _, _, W5.in4_1, hat, ?_, fun s' mv => ?_⟩
    · rintro j y z Q' E' ⟨i, hij, d, hd2, rfl⟩ q
      obtain ⟨hj, ej⟩ := List.getElem?_eq_some_iff.mp hij
      rw [List.getElem_range] at ej
      cases ej
      have q' : Q' (trD pb ds j) z := q
      unfold trD at q'
      rw [hd2] at q'
      exact wpAny_truthy_bool q'
    · have nw : ∀ b u, s1.heap.get? b = some u → b ∉ h3.objs.size :: [s1.heap.objs.size] := fun b u e hb => by
        have l := Heap.lt_size e
        have l2 : s1.heap.objs.size < h3.objs.size := lt
        rcases List.mem_cons.mp hb with z | z
        · rw [z] at l
          exact Nat.lt_asymm l l2
        · rw [at1 b z] at l
          exact Nat.lt_irrefl _ l
      have J := inv_tab (more := more) (h' := s'.heap) (g' := s'.gens) (d' := s'.drawn) (t' := s'.toks) I1 hP (fun b u n e => mv.heap b u (nw b u e) (k5 b u (up0 b u n e))) (mv.heap P _ (nw P _ p0) (k5 P _ hp)) (AllBare.movedS (I1.bare.push gb) mv)
      have es : ({ s1 with heap := s'.heap, gens := s'.gens, drawn := s'.drawn, toks := s'.toks } : Shared) = s' := by
        obtain ⟨_, _, _, _, _⟩ := s'
        have := mv.os
        dsimp only at this
        rw [this]
      rw [es] at J
      exact ⟨upd H1 P (.tbl (ps ++ more)), ⟨⟨_, upd_same, ht'⟩, fun b hb => upd_ne hb⟩, J⟩
def tAllD (K : PySem.W.Frag) (P : Addr) (pb : PyData → Bool) (te : TE) : TE := fun σ H Q => te σ H fun v H1 => ∃ ds, Dq K H1 v (.tuple ds) ∧ TabG H1 P ∧ ∀ H2, Tabbed P H1 H2 → Q (.bl (ds.all pb)) H2
/-- all(elt for x in e), e a tuple of data -/
theorem pe_allD {c P : Addr} {elt iter : Expr} {x : Str} {px p pos gpos : Pos} {scope : Scope} {pb : PyData → Bool} {te : TE} {k : Nat}
    (hr : Room (k + 1) X.A) (hg : Gl X "all") (hm : X.mg "all" = none) (TB : TabB X.base X.mg c P) (hcode : X.env.code = .ref c) (S : GenS X.env scope x) (hi : PE X iter te) (hel : EltD X k scope x elt pb)
    (hs : ∀ v, genFold iter X.env v = pure v)
    (he : starEach [.GeneratorExp elt [⟨.Name x px, iter, [], 0⟩] scope gpos] X.env = (false, eval (.GeneratorExp elt [⟨.Name x px, iter, [], 0⟩] scope gpos) X.env) :: starEach [] X.env := by rfl) :
    PE X (.Call (.Name "all" p) [.GeneratorExp elt [⟨.Name x px, iter, [], 0⟩] scope gpos] [] pos) (tAllD X.K P pb te) := by
  refine ⟨fun pins s σ H Q I h => wpAny_Call_Name_kw (ld_blt I hg hm boot_all (PyProof.Rows.callWith_builtin1 ?_ he (by rfl)))⟩
  rw [he]
  show wpAny _ _ (spliced ((false, eval (.GeneratorExp elt [⟨.Name x px, iter, [], 0⟩] scope gpos) X.env) :: backTo pos (starEach [] X.env))) _ _ s
  refine Calls.spliced_cons (genD (R := fun ds H1 => ∀ H2, Tabbed P H1 H2 → Q (.bl (ds.all pb)) H2) hr TB hcode S hi hel hs I h ?_)
  rintro ds H1 g z hR ⟨fp, wr, G, F, St, W, hst, htr, hI⟩
  refine Calls.spliced_nil (call_all_walkS (W.self 0 _ _ _ hst ⟨g, fp, wr, G, _, F, St, _, rfl, W, hst, htr, fun s' mv => ?_⟩))
  obtain ⟨H2, hT, J⟩ := hI s' mv
  rw [trD_all pb ds]
  exact ⟨.bl _, H2, J, rfl, hR H2 hT⟩
end
end Gr

set_option Elab.async false
set_option maxRecDepth 100000
set_option maxHeartbeats 4000000
set_option linter.all false
/-! Ours: texts as lists of signs. -/
namespace Gr
open PySem PySem.Spec PyProof.Rows L2
theorem same_upd {H : Hp} {a : Addr} {o : HO} (h : H a = none) : Same H (upd H a o) := fun b u e => by
  rw [upd_ne (ne_of_none e h)]
  exact e
theorem tx_ext {a b : Str} (h : a.cps.toList = b.cps.toList) : a = b := by
  obtain ⟨⟨x⟩⟩ := a
  obtain ⟨⟨y⟩⟩ := b
  cases (show x = y from h)
  rfl
theorem tx_len (z : Str) : z.length = z.cps.toList.length := rfl
theorem tx_app (a b : Str) : (a ++ b).cps.toList = a.cps.toList ++ b.cps.toList := by
  rw [PySem.Str.cps_append]
  exact Array.toList_append
theorem tx_starts (z : Str) (c : Nat) : Txt.startswith z ⟨#[c]⟩ = (z.cps.toList[0]? == some c) := by
  have e := PySem.StrLaws.subAt_one z c 0
  unfold Txt.startswith
  rw [Bool.eq_iff_iff, Bool.and_eq_true, decide_eq_true_eq, beq_iff_eq]
  exact e
theorem tx_last (z : Str) (h : 1 ≤ z.length) : z.cps.toList[z.length - 1]? = z.cps.toList.getLast? := by
  rw [List.getLast?_eq_getElem?]
  rfl
theorem tx_ends (z : Str) (c : Nat) : Txt.endswith z ⟨#[c]⟩ = (z.cps.toList.getLast? == some c) := by
  have e := PySem.StrLaws.subAt_one z c (z.length - 1)
  unfold Txt.endswith
  rw [Bool.eq_iff_iff, Bool.and_eq_true, decide_eq_true_eq, beq_iff_eq]
  have l1 : (⟨#[c]⟩ : Str).length = 1 := rfl
  rw [l1]
  rw [l1] at e
  constructor
  · rintro ⟨h1, h2⟩
    rw [← tx_last z (by omega)]
    exact e.mp ⟨by omega, h2⟩
  · intro h
    have hp : 1 ≤ z.length := by
      rw [tx_len]
      cases q : z.cps.toList with
      | nil =>
        rw [q] at h
        cases h
      | cons a r => simp
    rw [← tx_last z hp] at h
    have := e.mpr h
    exact ⟨by omega, this.2⟩
theorem tx_sub0 (z : Str) (n : Nat) : (Builtin.Str.strSub z 0 n).cps.toList = z.cps.toList.take n := by
  unfold Builtin.Str.strSub
  simp
theorem tx_suffix (z : Str) (c : Nat) : (Txt.removesuffix z ⟨#[c]⟩).cps.toList = if z.cps.toList.getLast? == some c then z.cps.toList.dropLast else z.cps.toList := by
  have e := tx_ends z c
  unfold Txt.endswith at e
  have l1 : (⟨#[c]⟩ : Str).length = 1 := rfl
  rw [l1] at e
  unfold Txt.removesuffix
  rw [l1]
  have e2 : (decide (1 ≤ z.length) && Builtin.Str.subAt z ⟨#[c]⟩ (z.length - 1)) = (z.cps.toList.getLast? == some c) := by
    rw [← e, Nat.zero_add]
  rw [e2]
  cases hq : z.cps.toList.getLast? == some c with
  | false => rfl
  | true =>
    have hp : 1 ≤ z.length := by
      rw [hq] at e2
      rw [Bool.and_eq_true, decide_eq_true_eq] at e2
      exact e2.1
    have ne : ¬ (z.length - 1 - 0 == z.length) = true := by
      rw [beq_iff_eq]
      omega
    show (if (z.length - 1 - 0 == z.length) = true then z else Builtin.Str.strSub z 0 (z.length - 1)).cps.toList = _
    rw [if_neg ne, tx_sub0, if_pos rfl, List.dropLast_eq_take]
    rfl
/-! slices -/
theorem cut_head (z : Str) : (cutS z none (some (-1))).cps.toList = z.cps.toList.dropLast := by
  unfold cutS
  show ((z.cps.toList.drop 0).take (HT.sIx z.length z.length (some (-1)) - 0)) = _
  rw [List.drop_zero, List.dropLast_eq_take, Nat.sub_zero]
  congr 1
  unfold HT.sIx
  rw [tx_len]
  simp
  omega
theorem cut_from (z : Str) (n : Nat) : (cutS z (some (n : Int)) none).cps.toList = z.cps.toList.drop n := by
  unfold cutS
  show ((z.cps.toList.drop (HT.sIx z.length 0 (some (n : Int)))).take (HT.sIx z.length z.length none - HT.sIx z.length 0 (some (n : Int)))) = _
  rw [HT.sIx_nat, HT.sIx_none, tx_len]
  by_cases h : n ≤ z.cps.toList.length
  · rw [Nat.min_eq_left h]
    exact List.take_of_length_le (by rw [List.length_drop]; exact Nat.le_refl _)
  · rw [Nat.min_eq_right (by omega), List.drop_of_length_le (Nat.le_refl _), List.drop_of_length_le (by omega), List.take_nil]
theorem cut_to (z : Str) (n : Nat) : (cutS z none (some (n : Int))).cps.toList = z.cps.toList.take n := by
  unfold cutS
  show ((z.cps.toList.drop 0).take (HT.sIx z.length z.length (some (n : Int)) - 0)) = _
  rw [List.drop_zero, HT.sIx_nat, tx_len, Nat.sub_zero]
  by_cases h : n ≤ z.cps.toList.length
  · rw [Nat.min_eq_left h]
  · rw [Nat.min_eq_right (by omega), List.take_of_length_le (Nat.le_refl _), List.take_of_length_le (by omega)]
theorem lit_slash : ("/" : Str) = ⟨#[47]⟩ := by decide +kernel
theorem lit_dollar : ("$" : Str) = ⟨#[36]⟩ := by decide +kernel
theorem lit_star : ("*" : Str) = ⟨#[42]⟩ := by decide +kernel
theorem str_eq_iff (a b : Str) : a = b ↔ a.cps.toList = b.cps.toList := ⟨fun e => by rw [e], tx_ext⟩
theorem one_inj {a b : Nat} : (⟨#[a]⟩ : Str) = ⟨#[b]⟩ ↔ a = b := by
  constructor
  · intro e
    have := congrArg (fun z : Str => z.cps.toList) e
    simpa using this
  · rintro rfl
    rfl
/-! heaps, comprehensions -/
theorem same_into {H H2 : Hp} {D : Addr} {o : HO} (hD : H D = none) (s : Same H H2) : Same H (upd H2 D o) := fun b u e => (upd_ne (ne_of_none e hD)).trans (s b u e)
theorem wipe1 {σ : L2.St} {j : Nat} {v : Option V} : wipe ((wipe σ [j]).set j v) [j] = wipe σ [j] := by simp [wipe]
/-- o.f within a comprehension's block -/
theorem pe_fldB {X : Cx} {s : Shared} {H : Hp} {sc : Scope} {en : Env} {fp : List Addr} {e : Expr} {f : Str} {pos : Pos} {ta : TE} (he : PE (X.blk s H sc en fp) e ta) (hb : attributeBase e f (X.blk s H sc en fp).env (eval e (X.blk s H sc en fp).env) = eval e (X.blk s H sc en fp).env) :
    PE (X.blk s H sc en fp) (.Attribute e f pos) (tFld X.K ta f) := pe_fld he hb
/-! parts that only look -/
theorem and_pure {ta tb : TE} {σ : L2.St} {H : Hp} {Q : VK} (c1 c2 : Bool) (h1 : ∀ Q' : VK, Q' (.bl c1) H → ta σ H Q') (h2 : c1 = true → ∀ Q' : VK, Q' (.bl c2) H → tb σ H Q') (q : Q (.bl (c1 && c2)) H) : tAndV ta tb σ H Q := by
  refine h1 _ ⟨c1, rfl, ?_⟩
  cases c1 with
  | true => exact if_pos rfl ▸ h2 rfl _ q
  | false => exact q
theorem or_pure {ta tb : TE} {σ : L2.St} {H : Hp} {Q : VK} (c1 c2 : Bool) (h1 : ∀ Q' : VK, Q' (.bl c1) H → ta σ H Q') (h2 : c1 = false → ∀ Q' : VK, Q' (.bl c2) H → tb σ H Q') (q : Q (.bl (c1 || c2)) H) : tOrV ta tb σ H Q := by
  refine h1 _ ⟨c1, rfl, ?_⟩
  cases c1 with
  | false => exact if_neg Bool.false_ne_true ▸ h2 rfl _ q
  | true => exact q
def tTruB (K : PySem.W.Frag) (te : TE) : TT := fun σ H Q => te σ H fun x H' => ∃ k, TruV K x H' k ∧ Q k H'
theorem pt_truthB {X : Cx} {s : Shared} {H : Hp} {sc : Scope} {en : Env} {fp : List Addr} {e : Expr} {te : TE} (he : PE (X.blk s H sc en fp) e te) (hi : ∀ whole, isTrue e (X.blk s H sc en fp).env whole = (do let v ← whole; standAt e.pos; holding [v] (truthy v))) :
    PT (X.blk s H sc en fp) e (tTruB X.K te) := pt_truth he hi
end Gr

set_option Elab.async false
set_option maxRecDepth 100000
set_option maxHeartbeats 4000000
set_option linter.all false
/-! Ours: zip of a list and a tuple. -/
namespace Gr
open PySem PySem.Spec PyProof.Rows L2

theorem paired_at {α β : Type} {r : α → β → Prop} : ∀ {xs : List α} {ys : List β}, Paired r xs ys → ∀ {i : Nat} {x : α}, xs[i]? = some x → ∃ y, ys[i]? = some y ∧ r x y
  | _, _, .nil, i, x, h => by cases h
  | _, _, .cons a b, 0, x, h => ⟨_, rfl, by cases h; exact a⟩
  | _, _, .cons a b, i + 1, x, h => paired_at b h
theorem paired_len {α β : Type} {r : α → β → Prop} : ∀ {xs : List α} {ys : List β}, Paired r xs ys → xs.length = ys.length
  | _, _, .nil => rfl
  | _, _, .cons a b => congrArg (· + 1) (paired_len b)
theorem plain_is {h : Heap} {a : Addr} {its : Array Value} (p : PlainL h a its) : h.IsList a its := let ⟨o, n, h1, h2, _, h4⟩ := p; ⟨o, h1, h2, n, h4⟩
theorem in5 {N c : Nat} (h : c ∈ [N + 4, N + 2, N + 3, N, N + 1]) : N ≤ c ∧ c ≤ N + 4 := by
  simp only [List.mem_cons, List.not_mem_nil, or_false] at h
  omega
/-- pairs of the list at a and the tuple at b -/
def ItzM (K : PySem.W.Frag) (a b : Addr) (xs ys : List V) : It :=
  ⟨fun i H => SqL K H a xs ∧ SqT K H b ys ∧ i < xs.length ∧ i < ys.length,
   fun i H v H' => ∃ T x y, v = .ref T ∧ H T = none ∧ H' = upd H T (.tup [x, y]) ∧ xs[i]? = some x ∧ ys[i]? = some y,
   fun i H => SqL K H a xs ∧ SqT K H b ys ∧ i ≤ xs.length ∧ i ≤ ys.length ∧ (i = xs.length ∨ i = ys.length)⟩
def YzM (xs ys : List V) : Nat → Hp → V → Hp → Prop := fun i H v H' => ∃ T x y, v = .ref T ∧ H T = none ∧ H' = upd H T (.tup [x, y]) ∧ xs[i]? = some x ∧ ys[i]? = some y
theorem walk_zipM {K : PySem.W.Frag} {a b : Addr} {xs ys : List V} {n : Nat} (h1 : n = xs.length) (h2 : n = ys.length) : Walk (ItzM K a b xs ys) n (fun H => SqL K H a xs ∧ SqT K H b ys) (YzM xs ys) :=
  ⟨fun i H hi q => ⟨q.1, q.2, by omega, by omega⟩, fun H q => ⟨q.1, q.2, by omega, by omega, .inl h1⟩, fun _ _ _ _ _ _ y => y⟩
theorem turn_zipM {P : Program} {w : World} {K : PySem.W.Frag} {elts : List Expr} {kk : Nat} {tpos : Pos} {a b : Addr} {xs ys : List V} {N : Nat} (ha : a < N) (hb : b < N) :
    Turn P w K (.Tuple elts kk tpos) (ItzM K a b xs ys) [N + 4, N + 2, N + 3, N, N + 1] (N + 4) (fun i h => IsZip h (N + 4) (N + 2) (N + 3) .none ∧ IsTupOf2 h (N + 2) (.ref N) (.ref (N + 1)) ∧ (∃ x y, IsTupOf2 h (N + 3) x y) ∧ h.IsListIter N a i ∧ h.IsTupleIter (N + 1) b i) where
  mem := List.mem_cons_self
  obj := by
    rintro i h ⟨hz, hTI, ⟨_, _, hTO⟩, ⟨o1, e1, _, d1⟩, ⟨o2, e2, _, d2⟩⟩ b hb
    simp only [List.mem_cons, List.not_mem_nil, or_false] at hb
    rcases hb with rfl | rfl | rfl | rfl | rfl
    · exact ⟨_, hz, fun v q => nomatch q⟩
    · exact ⟨_, hTI, fun v q => nomatch q⟩
    · exact ⟨_, hTO, fun v q => nomatch q⟩
    · exact ⟨_, e1, fun v q => by rw [d1] at q; cases q⟩
    · exact ⟨_, e2, fun v q => by rw [d2] at q; cases q⟩
  keep := by
    rintro i h h' ⟨hz, hTI, ⟨x, y, hTO⟩, ⟨o1, e1, r1⟩, ⟨o2, e2, r2⟩⟩ k
    exact ⟨k _ (by simp) _ hz, k _ (by simp) _ hTI, ⟨x, y, k _ (by simp) _ hTO⟩, ⟨o1, k _ (by simp) _ e1, r1⟩, ⟨o2, k _ (by simp) _ e2, r2⟩⟩
  item := by
    intro X hP hw hK hc i pins s σ H E I hf st hg
    subst hP hw hK
    obtain ⟨hz, hTI, ⟨x, y, hTO⟩, it1, it2⟩ := st
    obtain ⟨hL, hT, l1, l2⟩ := hg
    obtain ⟨v1, r1, p1, m1⟩ := I.list hL
    obtain ⟨v2, r2, p2, m2⟩ := I.tuple hT
    have g1 : xs[i]? = some xs[i] := List.getElem?_eq_getElem l1
    have g2 : ys[i]? = some ys[i] := List.getElem?_eq_getElem l2
    obtain ⟨u1, w1, q1⟩ := paired_at r1 g1
    obtain ⟨u2, w2, q2⟩ := paired_at r2 g2
    have n1 : i < v1.toArray.size := by rw [List.size_toArray, ← paired_len r1]; exact l1
    have n2 : i < v2.toArray.size := by rw [List.size_toArray, ← paired_len r2]; exact l2
    have sep := zip_sep2 (N := N) (fp1 := [a]) (fp2 := [b]) (fun c hc => by rw [List.mem_singleton.mp hc]; exact ha) (fun c hc => by rw [List.mem_singleton.mp hc]; exact hb)
    have zl : N + 4 < s.heap.objs.size := Heap.lt_size hz
    refine wpAny_pyNext_zipD2_item sep (Draws.list (A := X.A.in1) (I.ok.hd hc) N a (Nat.ne_of_lt ha) v1.toArray) (Draws.tuple (A := X.A.in1) (I.ok.hd hc) (N + 1) b (Nat.ne_of_lt (Nat.lt_succ_of_lt hb)) v2.toArray)
      hz hTI hTO ⟨it1, ?_⟩ ⟨it2, ?_⟩ n1 n2 fun x1 x2 h' tk e1 e2 hz' hTO' st1 st2 hT' hs' hk => ?_
    · exact plain_is p1
    · exact p2
    have ex1 : x1 = u1 := by
      have : v1[i]? = some x1 := (List.getElem?_toArray (xs := v1) (i := i)).symm.trans e1
      rw [w1] at this
      exact (Option.some.inj this).symm
    have ex2 : x2 = u2 := by
      have : v2[i]? = some x2 := (List.getElem?_toArray (xs := v2) (i := i)).symm.trans e2
      rw [w2] at this
      exact (Option.some.inj this).symm
    refine ⟨_, rfl, wpAny_letOwnedTupleGo_zip hz' fun h'' hz'' sb => ?_⟩
    have nT : s.heap.objs.size ≠ N + 4 := Nat.ne_of_gt zl
    have hT2 : h''.get? s.heap.objs.size = some { cls := .type "tuple", data := .seq #[x1, x2] } := (sb.2 _ nT).trans hT'
    have new : ObjOk X.prog X.w (upd H s.heap.objs.size (.tup [xs[i], ys[i]])) h'' s.heap.objs.size (.tup [xs[i], ys[i]]) :=
      ⟨by show 2 ≤ sizeLine; decide, _, .cons (ex1 ▸ q1) (.cons (ex2 ▸ q2) .nil), ⟨_, hT2, rfl, _, rfl⟩⟩
    have I1 : Inv X pins σ (upd H s.heap.objs.size (.tup [xs[i], ys[i]])) { s with heap := h'', toks := tk } := by
      refine I.turnedNew (ch := [N + 4, N + 2, N + 3, N, N + 1]) (fun b ob hb q => ?_) hf (Nat.le_refl _) new
      simp only [List.mem_cons, List.not_mem_nil, or_false, not_or] at hb
      exact (sb.2 b hb.1).trans (hk b ob hb.1 hb.2.2.1 hb.2.2.2.1 hb.2.2.2.2 q)
    have tInz : N + 2 ≠ N + 4 := by omega
    have n23 : N + 2 ≠ N + 3 := by omega
    have n20 : N + 2 ≠ N := by omega
    have n21 : N + 2 ≠ N + 1 := by omega
    have tOnz : N + 3 ≠ N + 4 := by omega
    have i1nz : N ≠ N + 4 := by omega
    have i2nz : N + 1 ≠ N + 4 := by omega
    refine ⟨.ref s.heap.objs.size, _, I1, rfl, ⟨_, _, _, rfl, I.hok.fresh (Nat.le_refl _), rfl, g1, g2⟩, ⟨hz'', ?_, ⟨x1, x2, (sb.2 _ tOnz).trans hTO'⟩, ?_, ?_⟩, fun c hc => ?_⟩
    · exact (sb.2 _ tInz).trans (hk _ _ tInz n23 n20 n21 hTI)
    · obtain ⟨o, q, r⟩ := st1.1
      exact ⟨o, (sb.2 _ i1nz).trans q, r⟩
    · obtain ⟨o, q, r⟩ := st2.1
      exact ⟨o, (sb.2 _ i2nz).trans q, r⟩
    · have lc : c < s.heap.objs.size := Nat.lt_of_le_of_lt (in5 hc).2 zl
      rw [upd_ne (Nat.ne_of_lt lc)]
      exact (hf c hc).1
  done := by
    intro X hP hw hK hc i pins s σ H E I hf st hg
    subst hP hw hK
    obtain ⟨hz, hTI, ⟨x, y, hTO⟩, it1, it2⟩ := st
    obtain ⟨hL, hT, l1, l2, e⟩ := hg
    obtain ⟨v1, r1, p1, m1⟩ := I.list hL
    obtain ⟨v2, r2, p2, m2⟩ := I.tuple hT
    have s1 : v1.toArray.size = xs.length := by rw [List.size_toArray, ← paired_len r1]
    have s2 : v2.toArray.size = ys.length := by rw [List.size_toArray, ← paired_len r2]
    have sep := zip_sep2 (N := N) (fp1 := [a]) (fp2 := [b]) (fun c hc => by rw [List.mem_singleton.mp hc]; exact ha) (fun c hc => by rw [List.mem_singleton.mp hc]; exact hb)
    refine wpAny_pyNext_zipD2_end sep (Draws.list (A := X.A.in1) (I.ok.hd hc) N a (Nat.ne_of_lt ha) v1.toArray) (Draws.tuple (A := X.A.in1) (I.ok.hd hc) (N + 1) b (Nat.ne_of_lt (Nat.lt_succ_of_lt hb)) v2.toArray)
      hz hTI hTO ⟨it1, ?_⟩ ⟨it2, ?_⟩ (by omega) (by omega) (by omega) fun h' tk hk => ⟨rfl, I.turnedL (ch := [N + 4, N + 2, N + 3, N, N + 1]) (fun c o hc q => ?_) hf⟩
    · exact plain_is p1
    · exact p2
    · simp only [List.mem_cons, List.not_mem_nil, or_false, not_or] at hc
      exact hk c o hc.1 hc.2.2.1 hc.2.2.2.1 hc.2.2.2.2 q
  self := fun A i s Q E ⟨hz, _⟩ h => wpAny_pyIter_zip hz h
/-- zip(xs, ys), a list and a tuple -/
def iZipM (K : PySem.W.Frag) (ta : TA) : TI := fun σ H R => ta σ H fun vs H1 => ∃ a b xs ys, vs = [.ref a, .ref b] ∧ SqL K H1 a xs ∧ SqT K H1 b ys ∧ R (ItzM K a b xs ys) H1
section
variable {X : Cx} {e e2 : Expr} {ta : TA} {p pos tpos : Pos} {elts : List Expr} {kk : Nat}
theorem pi_zipM (hg : Gl X "zip") (hm : X.mg "zip" = none) (ha : PA X [e, e2] ta) (hs : starEach [e, e2] X.env = (false, eval e X.env) :: starEach [e2] X.env := by rfl) (hpl : ((backTo pos (starEach [e2] X.env)).any (·.1)) = false := by rfl) :
    PI X (.Tuple elts kk tpos) (.Call (.Name "zip" p) [e, e2] [] pos) (iZipM X.K ta) := by
  refine ⟨fun pins s σ H R I h => Call_ (ld_blt I hg hm boot_zip (PyProof.Rows.callWith_type1 (thn (ha.run pos pins s σ H _ I h) ?_) hs hpl))⟩
  rintro us s1 ⟨vs, H1, I1, r1, a, b, xs, ys, rfl, hL, hT, q⟩
  obtain ⟨v1, q1, p1, m1⟩ := I1.list hL
  obtain ⟨v2, q2, p2, m2⟩ := I1.tuple hT
  match us, r1 with
  | _, .cons (b := _) e1 (.cons (b := _) e2 .nil) =>
  cases e1
  cases e2
  have la : a < s1.heap.objs.size := let ⟨_, _, e, _⟩ := p1; Heap.lt_size e
  have lb : b < s1.heap.objs.size := let ⟨_, e, _⟩ := p2; Heap.lt_size e
  refine zip_begins2 (begins_list a v1.toArray) (begins_tuple b v2.toArray) ?_ ?_ fun h' hz hTI hTO e1 e2 hs hk => wpAny_pyIter_zip hz ⟨_, [s1.heap.objs.size + 4, s1.heap.objs.size + 2, s1.heap.objs.size + 3, s1.heap.objs.size, s1.heap.objs.size + 1], _, _, H1, rfl, I1.kept (t' := s1.toks) hk, turn_zipM (xs := xs) (ys := ys) la lb, ⟨hz, hTI, ⟨_, _, hTO⟩, ⟨_, e1, rfl, rfl⟩, ⟨_, e2, rfl, rfl⟩⟩, fun c hc => ?_, q⟩
  · exact plain_is p1
  · exact p2
  · have lc : s1.heap.objs.size ≤ c := (in5 hc).1
    exact I1.fpOk lc (I1.hok.fresh lc)
end
end Gr

set_option Elab.async false
set_option maxRecDepth 100000
set_option maxHeartbeats 4000000
set_option linter.all false
/-! Ours: xs < ys of lists; (n, s) < (m, t) of tuples of an int and a text. -/
namespace Gr
open PySem PySem.Spec PyProof.Rows L2
theorem l_items {M : Model} {A : Around} {E : Value → Shared → Prop} {s : Shared} {l : Addr} {items : Array Value} {n : Nat} {dd : Option Addr} {sl : Array (Option Value)} {Q : Array Value → Shared → Prop}
    (hl : s.heap.get? l = some { cls := .type "list", dict := dd, data := .seq items n, slots := sl }) (q : Q items s) : wpAny M A (Builtin.List.listItems (.ref l)) Q E s := by
  obtain ⟨hp, g, d, tk, os⟩ := s
  unfold Builtin.List.listItems
  refine wpAny_bind ?_
  unfold seqItems?
  exact wpAny_bind (wpAny_load' hl (wpAny_pure (wpAny_pure q)))
theorem lt_loopAt (l b : Addr) (items items2 : Array Value) (n n2 : Nat) (dd dd2 : Option Addr) (sl sl2 : Array (Option Value)) (e r : Nat → Bool) :
    ∀ (k i : Nat), i + k = min items.size items2.size → Meets (Builtin.«list.__eq__.loop» { pos := [.ref l, .ref b, rawInt (i : Nat), rawInt 0] }) fun A R s =>
      s.heap.get? l = some { cls := .type "list", dict := dd, data := .seq items n, slots := sl } ∧ s.heap.get? b = some { cls := .type "list", dict := dd2, data := .seq items2 n2, slots := sl2 } ∧
        (∀ (j : Nat) (h1 : j < items.size) (h2 : j < items2.size), SeqAt.EqAt A.in1 s items[j] items2[j] (e j)) ∧
        (∀ (j : Nat) (h1 : j < items.size) (h2 : j < items2.size), e j = false → Ob.RcOp .Lt A.in1 s items[j] items2[j] (r j)) ∧
          R (.ok (.ret (.bool (Ob.lexAt e r (decide (items.size < items2.size)) i k)))) s
  | 0, i, hk => by
    rintro prog w A R s ⟨hl, hb, he, hr, h⟩
    refine wpAny_bind (l_items hl (wpAny_bind (l_items hb ?_)))
    have fin : wpAny (model prog w) A.in1 (do
        let xs ← Builtin.List.listItems (.ref l)
        let ys ← Builtin.List.listItems (.ref b)
        ret (.bool (decide (xs.size < ys.size)))) (fun fin s' => match fin with
          | .done f => R (.ok f) s'
          | .again c' => c'.quiet = true ∧ codeAny (model prog w) A c' R s') (fun e s' => R (.error e) s') s :=
      wpAny_bind (l_items hl (wpAny_bind (l_items hb (wpAny_pure h))))
    by_cases q : items.size ≤ i
    · have e1 : items[((i : Nat) : Int).toNat]? = none := Array.getElem?_eq_none q
      rw [e1]
      exact fin
    · have e1 : items[((i : Nat) : Int).toNat]? = some items[i] := Array.getElem?_eq_getElem (by omega)
      have e2 : items2[((i : Nat) : Int).toNat]? = none := Array.getElem?_eq_none (show items2.size ≤ i by omega)
      rw [e1, e2]
      exact fin
  | k + 1, i, hk => by
    rintro prog w A R s ⟨hl, hb, he, hr, h⟩
    refine wpAny_bind (l_items hl (wpAny_bind (l_items hb ?_)))
    have h1 : i < items.size := by omega
    have h2 : i < items2.size := by omega
    have e1 : items[((i : Nat) : Int).toNat]? = some items[i] := Array.getElem?_eq_getElem h1
    have e2 : items2[((i : Nat) : Int).toNat]? = some items2[i] := Array.getElem?_eq_getElem h2
    rw [e1, e2]
    refine wpAny_bind (he i h1 h2 prog w _ _ ?_)
    rw [Ob.lexAt_succ] at h
    cases hc : e i with
    | true =>
      rw [hc] at h
      have hs : (((i : Nat) : Int) + 1) = ((i + 1 : Nat) : Int) := rfl
      refine wpAny_pure ⟨plainId_quiet MeetsSeq3.plain_eq_loop _, codeAny_builtin MeetsSeq3.entry_eq_loop ?_⟩
      have := lt_loopAt l b items items2 n n2 dd dd2 sl sl2 e r k (i + 1) (by omega) prog w A R s ⟨hl, hb, he, hr, h⟩
      exact this
    | false =>
      rw [hc] at h
      refine wpAny_bind (l_items hl (wpAny_bind (l_items hb ?_)))
      rw [e1, e2]
      exact wpAny_bind (hr i h1 h2 hc prog w _ _ (wpAny_pure h))
theorem list_ltAt (l b : Addr) (items items2 : Array Value) (n n2 : Nat) (dd dd2 : Option Addr) (sl sl2 : Array (Option Value)) (e r : Nat → Bool) :
    Meets (Builtin.«list.__lt__» { pos := [.ref l, .ref b] }) fun A R s =>
      s.heap.get? l = some { cls := .type "list", dict := dd, data := .seq items n, slots := sl } ∧ s.heap.get? b = some { cls := .type "list", dict := dd2, data := .seq items2 n2, slots := sl2 } ∧
        (∀ (j : Nat) (h1 : j < items.size) (h2 : j < items2.size), SeqAt.EqAt A.in1 s items[j] items2[j] (e j)) ∧
        (∀ (j : Nat) (h1 : j < items.size) (h2 : j < items2.size), e j = false → Ob.RcOp .Lt A.in1 s items[j] items2[j] (r j)) ∧
          R (.ok (.ret (.bool (Ob.lexAt e r (decide (items.size < items2.size)) 0 (min items.size items2.size))))) s := by
  rintro prog w A R ⟨hp, g, d, tk, os⟩ ⟨hl, hb, he, hr, h⟩
  have f3 := AutoSeq1.sub_list_list
  refine wpAny_bind ?_
  unfold slotArgs
  refine wpAny_ite_false rfl (wpAny_ite_false rfl (wpAny_pure ?_))
  refine wpAny_bind (wpAny_bind (wpAny_bind (wpAny_loadPart' hb (wpAny_pure (wpAny_of_eq f3 ?_)))))
  refine wpAny_ite_false rfl (wpAny_ite_false rfl ?_)
  refine wpAny_pure ⟨plainId_quiet MeetsSeq3.plain_eq_loop _, codeAny_builtin MeetsSeq3.entry_eq_loop ?_⟩
  exact lt_loopAt l b items items2 n n2 dd dd2 sl sl2 e r _ 0 (Nat.zero_add _) prog w A R _ ⟨hl, hb, he, hr, h⟩
theorem lists_lt {A : Around} {s : Shared} {l b : Addr} {items items2 : Array Value} {e r : Nat → Bool} (hl : s.heap.IsList l items) (hb : s.heap.IsList b items2) (hu : A.units < cLine)
    (he : ∀ (j : Nat) (h1 : j < items.size) (h2 : j < items2.size), SeqAt.EqAt A.in1 s items[j] items2[j] (e j))
    (hr : ∀ (j : Nat) (h1 : j < items.size) (h2 : j < items2.size), e j = false → Ob.RcOp .Lt A.in1 s items[j] items2[j] (r j)) :
    Ob.RcOp .Lt A s (.ref l) (.ref b) (Ob.lexAt e r (decide (items.size < items2.size)) 0 (min items.size items2.size)) := by
  intro prog w E Q h
  obtain ⟨⟨cls, dd, data, sl⟩, ho, hc, n, hd⟩ := id hl
  obtain ⟨⟨cls2, dd2, data2, sl2⟩, ho2, hc2, n2, hd2⟩ := id hb
  dsimp only at hc hd hc2 hd2
  subst hc hd hc2 hd2
  exact richCompare_meets_room ⟨_, ho, rfl⟩ ⟨_, ho2, rfl⟩ F.slot_list_lt F.entry_list_lt (F.args_list_lt_2 (.ref l) (.ref b)) (list_ltAt l b items items2 n n2 dd dd2 sl sl2 e r) ⟨ho, ho2, he, hr, ⟨(fun x => nomatch x), h⟩⟩ hu
theorem rc_str {A : Around} {s : Shared} (x y : Str) (t u : Tok) : Ob.RcOp .Lt A s (.str x t) (.str y u) (decide (x.cps.toList < y.cps.toList)) := fun _ _ _ _ h => PySem.P.lt_str h
theorem lexAt_ints (ns ms : List Int) : ∀ (k i : Nat), i + k = min ns.length ms.length →
    Ob.lexAt (fun j => ns.getD j 0 == ms.getD j 0) (fun j => decide (ns.getD j 0 < ms.getD j 0)) (decide (ns.length < ms.length)) i k = HT.lexLt (ns.drop i) (ms.drop i)
  | 0, i, h => by
    rw [Ob.lexAt_zero]
    by_cases q : ns.length ≤ i
    · rw [List.drop_of_length_le q]
      by_cases q2 : ms.length ≤ i
      · rw [List.drop_of_length_le q2, HT.lexLt_nil_nil]
        exact decide_eq_false (by omega)
      · rw [List.drop_eq_getElem_cons (Nat.lt_of_not_le q2), HT.lexLt_nil_cons]
        exact decide_eq_true (by omega)
    · rw [List.drop_eq_getElem_cons (Nat.lt_of_not_le q), List.drop_of_length_le (show ms.length ≤ i by omega), HT.lexLt_cons_nil]
      exact decide_eq_false (by omega)
  | k + 1, i, h => by
    have h1 : i < ns.length := by omega
    have h2 : i < ms.length := by omega
    have e1 : ns.getD i 0 = ns[i] := by rw [List.getD_eq_getElem?_getD, List.getElem?_eq_getElem h1]; rfl
    have e2 : ms.getD i 0 = ms[i] := by rw [List.getD_eq_getElem?_getD, List.getElem?_eq_getElem h2]; rfl
    rw [Ob.lexAt_succ, List.drop_eq_getElem_cons h1, List.drop_eq_getElem_cons h2, HT.lexLt_cons, lexAt_ints ns ms k (i + 1) (by omega), e1, e2]
    by_cases q : ns[i] = ms[i]
    · rw [if_pos (by simp [q]), if_pos q]
    · rw [if_neg (by simp [q]), if_neg q]
/-- xs < ys, lists of ints -/
def rLtL (K : PySem.W.Frag) : R2 := fun x y H Q => ∃ a b ns ms, x = .ref a ∧ y = .ref b ∧ SqL K H a (ns.map V.int) ∧ SqL K H b (ms.map V.int) ∧ Q (.bl (HT.lexLt ns ms)) H
theorem op_ltL {X : Cx} (hu : X.A.units < cLine) : OpR X (compareOp .Lt) (rLtL X.K) := by
  rintro pins s σ H x y v u Q I rx ry ⟨a, b, ns, ms, rfl, rfl, ha, hb, q⟩
  cases (show v = Value.ref a from rx)
  cases (show u = Value.ref b from ry)
  obtain ⟨v1, r1, p1, m1⟩ := I.list ha
  obtain ⟨v2, r2, p2, m2⟩ := I.list hb
  have i1 := L2.intsAre_of r1
  have i2 := L2.intsAre_of r2
  have l1 : v1.toArray.size = ns.length := by rw [List.size_toArray, ← paired_len r1, List.length_map]
  have l2 : v2.toArray.size = ms.length := by rw [List.size_toArray, ← paired_len r2, List.length_map]
  have at1 : ∀ (j : Nat) (h : j < v1.toArray.size), ∃ t, v1.toArray[j] = Value.int (ns.getD j 0) t := fun j h => i1.int_at j _ (by simp)
  have at2 : ∀ (j : Nat) (h : j < v2.toArray.size), ∃ t, v2.toArray[j] = Value.int (ms.getD j 0) t := fun j h => i2.int_at j _ (by simp)
  have R := lists_lt (A := X.A) (s := s) (e := fun j => ns.getD j 0 == ms.getD j 0) (r := fun j => decide (ns.getD j 0 < ms.getD j 0)) (plain_is p1) (plain_is p2) hu
    (fun j h1 h2 => by
      obtain ⟨t, e1⟩ := at1 j h1
      obtain ⟨t2, e2⟩ := at2 j h2
      rw [e1, e2]
      exact SeqAt.EqAt.int_int _ _ _ _)
    (fun j h1 h2 _ => by
      obtain ⟨t, e1⟩ := at1 j h1
      obtain ⟨t2, e2⟩ := at2 j h2
      rw [e1, e2]
      exact Ob.RcOp.lt_int _ _ _ _)
  rw [l1, l2, lexAt_ints ns ms _ 0 (Nat.zero_add _)] at R
  exact R X.prog X.w X.xe (EP X pins σ Q) ⟨.bl _, H, I, rfl, q⟩
theorem two_vals {x y : V} {us : List Value} (h : Vals [x, y] us) : ∃ a b, us = [a, b] ∧ RelV x a ∧ RelV y b := by
  cases h with
  | cons a b =>
    cases b with
    | cons b c =>
      cases c
      exact ⟨_, _, rfl, a, b⟩
/-- (n, s) < (m, t) -/
def rLtP (K : PySem.W.Frag) : R2 := fun x y H Q => ∃ a b n m p r, x = .ref a ∧ y = .ref b ∧ SqT K H a [.int n, .str p] ∧ SqT K H b [.int m, .str r] ∧ Q (.bl (if n = m then decide (p.cps.toList < r.cps.toList) else decide (n < m))) H
theorem op_ltP {X : Cx} (hu : X.A.units < cLine) : OpR X (compareOp .Lt) (rLtP X.K) := by
  rintro pins s σ H x y v u Q I rx ry ⟨a, b, n, m, p, r, rfl, rfl, ha, hb, q⟩
  cases (show v = Value.ref a from rx)
  cases (show u = Value.ref b from ry)
  obtain ⟨v1, r1, p1, m1⟩ := I.tuple ha
  obtain ⟨v2, r2, p2, m2⟩ := I.tuple hb
  obtain ⟨x1, x2, rfl, f1, f2⟩ := two_vals r1
  obtain ⟨y1, y2, rfl, g1, g2⟩ := two_vals r2
  obtain ⟨t1, rfl⟩ := f1
  obtain ⟨t2, rfl⟩ := f2
  obtain ⟨t3, rfl⟩ := g1
  obtain ⟨t4, rfl⟩ := g2
  have R := Ob.RcOp.tuples_lt (A := X.A) (s := s) (e := fun j => if j = 0 then n == m else p == r) (r := fun j => if j = 0 then decide (n < m) else decide (p.cps.toList < r.cps.toList)) p1 p2 hu
    (fun j h1 h2 => by
      rcases j with _ | _ | j
      · exact SeqAt.EqAt.int_int _ _ _ _
      · exact SeqAt.EqAt.str_str _ _ _ _
      · exact absurd (show j + 1 + 1 < 2 from h1) (by omega))
    (fun j h1 h2 _ => by
      rcases j with _ | _ | j
      · exact Ob.RcOp.lt_int _ _ _ _
      · exact rc_str _ _ _ _
      · exact absurd (show j + 1 + 1 < 2 from h1) (by omega))
  have e : Ob.lexAt (fun j => if j = 0 then n == m else p == r) (fun j => if j = 0 then decide (n < m) else decide (p.cps.toList < r.cps.toList)) false 0 2 = (if n = m then decide (p.cps.toList < r.cps.toList) else decide (n < m)) := by
    rw [Ob.lexAt_succ, Ob.lexAt_succ, Ob.lexAt_zero]
    by_cases h1 : n = m
    · subst h1
      by_cases h2 : p = r
      · subst h2
        simp
      · simp [h2]
    · simp [h1]
  have z1 : ([Value.int n t1, Value.str p t2].toArray.size) = 2 := rfl
  have z2 : ([Value.int m t3, Value.str r t4].toArray.size) = 2 := rfl
  rw [z1, z2, Nat.min_self, decide_eq_false (Nat.lt_irrefl 2), e] at R
  exact R X.prog X.w X.xe (EP X pins σ Q) ⟨.bl _, H, I, rfl, q⟩
end Gr

set_option Elab.async false
set_option maxRecDepth 100000
set_option maxHeartbeats 4000000
set_option linter.all false
/-! Ours: values of any kind as data; tables of generators, any number of them; what stands beside a well. -/
namespace Gr
open PySem PySem.Spec PyProof.Rows L2 GxR
mutual
/-- a value that is data -/
inductive Od (H : Hp) : V → PyData → Prop
  | non : Od H .non .none
  | bl (b : Bool) : Od H (.bl b) (.bool b)
  | int (i : Int) : Od H (.int i) (.int i)
  | str (x : Str) : Od H (.str x) (.str x)
  | lst {a : Addr} {xs : List V} {ds : List PyData} : H a = some (.lst xs) → OdAll H xs ds → Od H (.ref a) (.list ds)
  | tup {a : Addr} {xs : List V} {ds : List PyData} : H a = some (.tup xs) → OdAll H xs ds → Od H (.ref a) (.tuple ds)
  | dic {a : Addr} {kvs : List (Key × V)} {ds : List (PyData × PyData)} : H a = some (.dK kvs) → OdAll H (kvs.map fun p => kV p.1) (ds.map (·.1)) → OdAll H (kvs.map (·.2)) (ds.map (·.2)) → Od H (.ref a) (.dict ds)
inductive OdAll (H : Hp) : List V → List PyData → Prop
  | nil : OdAll H [] []
  | cons {v : V} {vs : List V} {d : PyData} {ds : List PyData} : Od H v d → OdAll H vs ds → OdAll H (v :: vs) (d :: ds)
end
mutual
theorem Od.same {H H' : Hp} (s : Same H H') : ∀ {v : V} {d : PyData}, Od H v d → Od H' v d
  | _, _, .non => .non
  | _, _, .bl b => .bl b
  | _, _, .int i => .int i
  | _, _, .str x => .str x
  | _, _, .lst e a => .lst (s _ _ e) (OdAll.same s a)
  | _, _, .tup e a => .tup (s _ _ e) (OdAll.same s a)
  | _, _, .dic e a b => .dic (s _ _ e) (OdAll.same s a) (OdAll.same s b)
theorem OdAll.same {H H' : Hp} (s : Same H H') : ∀ {vs : List V} {ds : List PyData}, OdAll H vs ds → OdAll H' vs ds
  | _, _, .nil => .nil
  | _, _, .cons a b => .cons (Od.same s a) (OdAll.same s b)
end
mutual
theorem Od.dq {K : PySem.W.Frag} {H : Hp} : ∀ {v : V} {d : PyData}, Od H v d → Dq K H v d
  | _, _, .non => .non
  | _, _, .bl b => .bl b
  | _, _, .int i => .int i
  | _, _, .str x => .str x
  | _, _, .lst e a => .lst (SqL.of e) (OdAll.dq a)
  | _, _, .tup e a => .tup (SqT.of e) (OdAll.dq a)
  | _, _, .dic e a b => .dic e (OdAll.dq a) (OdAll.dq b)
theorem OdAll.dq {K : PySem.W.Frag} {H : Hp} : ∀ {vs : List V} {ds : List PyData}, OdAll H vs ds → DqAll K H vs ds
  | _, _, .nil => .nil
  | _, _, .cons a b => .cons (Od.dq a) (OdAll.dq b)
end
theorem OdAll.len {H : Hp} : ∀ {vs : List V} {ds : List PyData}, OdAll H vs ds → vs.length = ds.length
  | _, _, .nil => rfl
  | _, _, .cons _ b => congrArg (· + 1) (OdAll.len b)
def tyD : PyData → String
  | .none => "NoneType"
  | .bool _ => "bool"
  | .int _ => "int"
  | .str _ => "str"
  | .list _ => "list"
  | .tuple _ => "tuple"
  | .dict _ => "dict"
theorem Od.ty {K : PySem.W.Frag} {H : Hp} {v : V} {d : PyData} (h : Od H v d) : TyX K H v (.type (tyD d)) := by
  cases h with
  | non => exact .base .non
  | bl b => exact .base (.bl b)
  | int i => exact .base (.int i)
  | str x => exact .base (.str x)
  | lst e _ => exact .base (.lst e)
  | tup e _ => exact .base (.tup e)
  | dic e _ _ => exact .base (.dK e)
def isIntD : PyData → Bool
  | .bool _ => true
  | .int _ => true
  | _ => false
def isBoolD : PyData → Bool
  | .bool _ => true
  | _ => false
def isStrD : PyData → Bool
  | .str _ => true
  | _ => false
def isTupD : PyData → Bool
  | .tuple _ => true
  | _ => false
theorem kInt {K : PySem.W.Frag} (d : PyData) : PySem.W.kitOne K (.type (tyD d)) (.type "int") = some (isIntD d) := by
  cases d <;> (refine kit_ty ?_; simp only [tyD, isIntD]; decide +kernel)
theorem kBool {K : PySem.W.Frag} (d : PyData) : PySem.W.kitOne K (.type (tyD d)) (.type "bool") = some (isBoolD d) := by
  cases d <;> (refine kit_ty ?_; simp only [tyD, isBoolD]; decide +kernel)
theorem kStr {K : PySem.W.Frag} (d : PyData) : PySem.W.kitOne K (.type (tyD d)) (.type "str") = some (isStrD d) := by
  cases d <;> (refine kit_ty ?_; simp only [tyD, isStrD]; decide +kernel)
theorem kTup {K : PySem.W.Frag} (d : PyData) : PySem.W.kitOne K (.type (tyD d)) (.type "tuple") = some (isTupD d) := by
  cases d <;> (refine kit_ty ?_; simp only [tyD, isTupD]; decide +kernel)
def wholeD : PyData → Bool
  | .int _ => true
  | _ => false
def spWhole : Sp := fun vs H Q _ => ∃ v d, vs = [v] ∧ Od H v d ∧ Q (.bl (wholeD d)) H
def betwD (d : PyData) (lo hi : Int) : Bool := match d with
  | .int n => decide (lo ≤ n) && decide (n ≤ hi)
  | _ => false
def spBetw : Sp := fun vs H Q _ => ∃ v d lo hi, vs = [v, .int lo, .int hi] ∧ Od H v d ∧ Q (.bl (betwD d lo hi)) H
def rowD (d : PyData) (lo hi : Int) : Bool := match d with
  | .tuple ds => decide (lo ≤ (ds.length : Nat)) && decide (((ds.length : Nat) : Int) ≤ hi)
  | _ => false
def spRow : Sp := fun vs H Q _ => ∃ v d lo hi, vs = [v, .int lo, .int hi] ∧ Od H v d ∧ Q (.bl (rowD d lo hi)) H

/-! ### tables -/
def Tb (ps : List Addr) (H : Hp) : Prop := ∀ p ∈ ps, TabG H p
/-- but for the tables all is as it was -/
def UpL (ps : List Addr) (H H' : Hp) : Prop := Tb ps H' ∧ ∀ b, b ∉ ps → ∀ o, H b = some o → H' b = some o
def Stay (H H' : Hp) : Prop := ∀ a o, H a = some o → (∀ ps, o ≠ .tbl ps) → H' a = some o
theorem tabG_same {H H1 : Hp} {p : Addr} (h : TabG H p) (s : Same H H1) : TabG H1 p := let ⟨ps, a, b⟩ := h; ⟨ps, s _ _ a, b⟩
theorem tabG_tab {H H1 : Hp} {p q : Addr} (h : TabG H q) (t : Tabbed p H H1) : TabG H1 q := by
  by_cases e : q = p
  · rw [e]
    exact t.1
  · obtain ⟨ps, a, b⟩ := h
    exact ⟨ps, (t.2 _ e).trans a, b⟩
section
variable {ps : List Addr} {H H1 H2 : Hp}
theorem Tb.same (h : Tb ps H) (s : Same H H1) : Tb ps H1 := fun p hp => tabG_same (h p hp) s
theorem UpL.refl (h : Tb ps H) : UpL ps H H := ⟨h, fun _ _ _ e => e⟩
theorem UpL.trans (a : UpL ps H H1) (b : UpL ps H1 H2) : UpL ps H H2 := ⟨b.1, fun x n o e => b.2 x n o (a.2 x n o e)⟩
theorem UpL.same (h : Tb ps H) (s : Same H H1) : UpL ps H H1 := ⟨h.same s, fun x _ o e => s x o e⟩
theorem UpL.tab {p : Addr} (h : Tb ps H) (t : Tabbed p H H1) (hp : p ∈ ps) : UpL ps H H1 := ⟨fun q hq => tabG_tab (h q hq) t, fun x n o e => (t.2 x (fun z => n (z ▸ hp))).trans e⟩
theorem UpL.stay (h : Tb ps H) (u : UpL ps H H1) : Stay H H1 := fun a o e n => by
  refine u.2 a (fun z => ?_) o e
  obtain ⟨p1, e1, _⟩ := h a z
  rw [e1] at e
  exact n _ (Option.some.inj e).symm
theorem UpL.put {D : Addr} {xs ys : List V} (u : UpL ps H H1) (n : H D = none) (e : H1 D = some (.lst xs)) : UpL ps H (upd H1 D (.lst ys)) := by
  refine ⟨fun p hp => ?_, fun x m o q => ?_⟩
  · obtain ⟨qs, e1, t⟩ := u.1 p hp
    refine ⟨qs, (upd_ne fun z => ?_).trans e1, t⟩
    rw [z, e] at e1
    cases e1
  · rw [upd_ne (ne_of_none q n)]
    exact u.2 x m o q
end
mutual
theorem Od.stay {H H' : Hp} (s : Stay H H') : ∀ {v : V} {d : PyData}, Od H v d → Od H' v d
  | _, _, .non => .non
  | _, _, .bl b => .bl b
  | _, _, .int i => .int i
  | _, _, .str x => .str x
  | _, _, .lst e a => .lst (s _ _ e (fun _ q => nomatch q)) (OdAll.stay s a)
  | _, _, .tup e a => .tup (s _ _ e (fun _ q => nomatch q)) (OdAll.stay s a)
  | _, _, .dic e a b => .dic (s _ _ e (fun _ q => nomatch q)) (OdAll.stay s a) (OdAll.stay s b)
theorem OdAll.stay {H H' : Hp} (s : Stay H H') : ∀ {vs : List V} {ds : List PyData}, OdAll H vs ds → OdAll H' vs ds
  | _, _, .nil => .nil
  | _, _, .cons a b => .cons (Od.stay s a) (OdAll.stay s b)
end
theorem cutV_to (xs : List V) (n : Nat) : cutV xs none (some (n : Int)) = xs.take n := by
  unfold cutV
  rw [HT.sIx_none, HT.sIx_nat, List.drop_zero, Nat.sub_zero]
  by_cases h : n ≤ xs.length
  · rw [Nat.min_eq_left h]
  · rw [Nat.min_eq_right (by omega), List.take_of_length_le (Nat.le_refl _), List.take_of_length_le (by omega)]
theorem cutV_from (xs : List V) (n : Nat) : cutV xs (some (n : Int)) none = xs.drop n := by
  unfold cutV
  rw [HT.sIx_none, HT.sIx_nat]
  by_cases h : n ≤ xs.length
  · rw [Nat.min_eq_left h]
    exact List.take_of_length_le (by rw [List.length_drop]; exact Nat.le_refl _)
  · rw [Nat.min_eq_right (by omega), List.drop_of_length_le (Nat.le_refl _), List.drop_of_length_le (by omega), List.take_nil]
theorem OdAll.take {H : Hp} : ∀ {vs : List V} {ds : List PyData} (n : Nat), OdAll H vs ds → OdAll H (vs.take n) (ds.take n)
  | _, _, 0, _ => by rw [List.take_zero, List.take_zero]; exact .nil
  | _, _, n + 1, .nil => by rw [List.take_nil, List.take_nil]; exact .nil
  | _, _, n + 1, .cons a b => .cons a (OdAll.take n b)
theorem OdAll.drop {H : Hp} : ∀ {vs : List V} {ds : List PyData} (n : Nat), OdAll H vs ds → OdAll H (vs.drop n) (ds.drop n)
  | _, _, 0, h => h
  | _, _, n + 1, .nil => by rw [List.drop_nil, List.drop_nil]; exact .nil
  | _, _, n + 1, .cons a b => OdAll.drop n b
theorem OdAll.app {H : Hp} : ∀ {vs ws : List V} {ds es : List PyData}, OdAll H vs ds → OdAll H ws es → OdAll H (vs ++ ws) (ds ++ es)
  | _, _, _, _, .nil, h => h
  | _, _, _, _, .cons a b, h => .cons a (OdAll.app b h)
/-- the heap without some addresses -/
def hide (H : Hp) (ls : List Addr) : Hp := fun a => if a ∈ ls then none else H a
theorem hide_same (H : Hp) (ls : List Addr) : Same (hide H ls) H := fun a o e => by
  unfold hide at e
  split at e
  · cases e
  · exact e
theorem same_hide {H H' : Hp} (ls : List Addr) (s : Same H H') : Same (hide H ls) (hide H' ls) := fun a o e => by
  unfold hide at e ⊢
  split at e
  · cases e
  · rename_i n
    rw [if_neg n]
    exact s _ _ e
theorem hide_at {H : Hp} {ls : List Addr} {a : Addr} {o : HO} (e : H a = some o) (n : a ∉ ls) : hide H ls a = some o := by
  unfold hide
  rw [if_neg n]
  exact e
theorem not_hidden {H : Hp} {ls : List Addr} (h : ∀ l ∈ ls, H l ≠ none) {a : Addr} (e : H a = none) : a ∉ ls := fun q => h a q e
def Lit (te : TE) (d : PyData) : Prop := ∀ (ls : List Addr) (σ : L2.St) (H : Hp) (Q : VK), (∀ l ∈ ls, H l ≠ none) → (∀ v H', Same H H' → Od (hide H' ls) v d → Q v H') → te σ H Q
def Lits (ta : TA) (ds : List PyData) : Prop := ∀ (ls : List Addr) (σ : L2.St) (H : Hp) (Q : List V → Hp → Prop), (∀ l ∈ ls, H l ≠ none) → (∀ vs H', Same H H' → OdAll (hide H' ls) vs ds → Q vs H') → ta σ H Q
theorem keep_ls {H H' : Hp} {ls : List Addr} (h : ∀ l ∈ ls, H l ≠ none) (s : Same H H') : ∀ l ∈ ls, H' l ≠ none := fun l hl q => by
  cases e : H l with
  | none => exact h l hl e
  | some o => rw [s _ _ e] at q; cases q
theorem lit_int (i : Int) : Lit (tC (.int i)) (.int i) := fun _ _ _ _ _ k => k _ _ (.refl _) (.int i)
theorem lit_str (x : Str) : Lit (tC (.str x)) (.str x) := fun _ _ _ _ _ k => k _ _ (.refl _) (.str x)
theorem lit_bl (b : Bool) : Lit (tC (.bl b)) (.bool b) := fun _ _ _ _ _ k => k _ _ (.refl _) (.bl b)
theorem lit_non : Lit (tC .non) .none := fun _ _ _ _ _ k => k _ _ (.refl _) .non
theorem lits_nil : Lits tNil [] := fun _ _ _ _ _ k => k _ _ (.refl _) .nil
theorem lits_cons {te : TE} {ta : TA} {d : PyData} {ds : List PyData} (h1 : Lit te d) (h2 : Lits ta ds) : Lits (tCons te ta) (d :: ds) := fun ls σ H Q hl k =>
  h1 ls σ H _ hl fun v H1 s1 o1 => h2 ls σ H1 _ (keep_ls hl s1) fun vs H2 s2 o2 => k _ _ (s1.trans s2) (.cons (o1.same (same_hide ls s2)) o2)
theorem lit_tup {ta : TA} {ds : List PyData} (h : Lits ta ds) (n : ds.length ≤ 60) : Lit (tTup ta) (.tuple ds) := fun ls σ H Q hl k =>
  h ls σ H _ hl fun vs H1 s1 o1 => ⟨by have := o1.len; have mz : 5000 ≤ sizeLine := by decide
                                       omega, fun p hp => k _ _ (s1.trans (same_upd hp)) (.tup (hide_at upd_same (not_hidden (keep_ls hl s1) hp)) (o1.same (same_hide ls (same_upd hp))))⟩
theorem lit_lst {ta : TA} {ds : List PyData} (h : Lits ta ds) (n : ds.length ≤ 60) : Lit (tLst ta) (.list ds) := fun ls σ H Q hl k =>
  h ls σ H _ hl fun vs H1 s1 o1 => ⟨by have := o1.len; have mz : 5000 ≤ sizeLine := by decide
                                       omega, fun p hp => k _ _ (s1.trans (same_upd hp)) (.lst (hide_at upd_same (not_hidden (keep_ls hl s1) hp)) (o1.same (same_hide ls (same_upd hp))))⟩
theorem lit_d0 : Lit tDNewK (.dict []) := fun ls σ H Q hl k p hp => k _ _ (same_upd hp) (.dic (hide_at upd_same (not_hidden hl hp)) .nil .nil)
theorem lit_dx : Lit (tDisp [(tC (.str "x"), tC (.int 1))]) (.dict [(.str "x", .int 1)]) := fun ls σ H Q hl k p hp => by
  refine ⟨upd_same, [(Sum.inr "x", .int 1)], rfl, by decide, ?_⟩
  have e : upd (upd H p (.dK [])) p (.dK (mergeK [] [(Sum.inr "x", .int 1)])) = upd H p (.dK [(Sum.inr "x", .int 1)]) := by
    funext b
    unfold upd
    by_cases h : b = p <;> simp [h] <;> rfl
  rw [e]
  exact k _ _ (same_upd hp) (.dic (hide_at upd_same (not_hidden hl hp)) (.cons (.str _) .nil) (.cons (.int _) .nil))

def hasOne (i : Int) : List PyData → Bool
  | [] => false
  | .int j :: l => (j == i) || hasOne i l
  | _ :: l => hasOne i l
/-- one thing told of any value -/
def spD (ps : List Addr) (dom : PyData → Prop) (f : PyData → Bool) : Sp := fun vs H Q _ => ∃ v d, vs = [v] ∧ Od H v d ∧ dom d ∧ Tb ps H ∧ ∀ H', UpL ps H H' → Q (.bl (f d)) H'
end Gr

set_option Elab.async false
set_option maxRecDepth 100000
set_option maxHeartbeats 4000000
set_option linter.all false
/-! Ours: enumerate over a tuple; a promise with less asked. -/
namespace Gr
open PySem PySem.Spec PyProof.Rows L2 GxR
theorem fn_imp {P : Program} {w : World} {K : PySem.W.Frag} {mg : Str → Option Value} {base : Heap} {CX : CXT} {k : Nat} {f : Addr} {fd : FuncData} {ps : List Str} {sp sp' : Sp} (F : FnOk P w K mg base CX k f fd ps sp) (h : ∀ vs H Q E, sp' vs H Q E → sp vs H Q E) : FnOk P w K mg base CX k f fd ps sp' :=
  ⟨fun vs H Q E q => F.len vs H Q E (h _ _ _ _ q), fun A outer s H args us vs Q E hr e b r q => F.run A outer s H args us vs Q E hr e b r (h _ _ _ _ q)⟩
set_option maxHeartbeats 1000000 in
theorem enum_new1 {v : Value} {o : Obj} {G : Heap → Prop} (B : Begins v o G) :
    Meets (Builtin.«enumerate.__new__» ⟨[.type "enumerate", v], []⟩) (fun _ R z => G z.heap ∧
      R (.ok (.ret (.ref (z.heap.push o).objs.size))) { z with heap := (z.heap.push o).push { cls := .type "enumerate", data := .fields #[.none, .bool false, .ref z.heap.objs.size, rawInt 0, .none, .none] } }) :=
  .of_wp fun prog w A R z hh => by
    obtain ⟨hp, gg, dd, tk, oo⟩ := z
    obtain ⟨g1, rr⟩ := hh
    have sb := sub_enumerate
    have go : ∀ {A1 : Around} {E1 : Value → Shared → Prop} {Q1 : Value → Shared → Prop}, Q1 (.ref hp.objs.size) ⟨hp.push o, gg, dd, tk, oo⟩ → wpAny (model prog w) A1 (pyIter v) Q1 E1 ⟨hp, gg, dd, tk, oo⟩ := fun q => B.iter prog w _ _ ⟨hp, gg, dd, tk, oo⟩ _ g1 q
    wp_walk using go
    refine wpAny_stack_any fun _ => wpAny_pure ?_
    split
    · rename_i cc _ _ _ _ _
      cases (cc == Value.type "enumerate") <;> (wp_walk using go; exact ⟨_, rfl, rr⟩)
    · wp_walk using go
      exact ⟨_, rfl, rr⟩
theorem enum_call1 {prog : Program} {w : World} {A : Around} {E : Value → Shared → Prop} {z : Shared} {v : Value} {o : Obj} {G : Heap → Prop} {Q : Value → Shared → Prop} (B : Begins v o G) (g1 : G z.heap)
    (hQ : ∀ h', IsEnum h' (z.heap.objs.size + 1) z.heap.objs.size 0 .none → h'.get? z.heap.objs.size = some o → (∀ b u, z.heap.get? b = some u → h'.get? b = some u) → Q (.ref (z.heap.objs.size + 1)) { z with heap := h' }) :
    wpAny (model prog w) A (call (.type "enumerate") [v]) Q E z := by
  have e1 : (z.heap.push o).objs.size = z.heap.objs.size + 1 := Heap.size_push ..
  refine callType_new F.called_enumerate (by decide) (F.typeCall_enumerate_1 _) (F.newCall_enumerate_1 _) (fun ob => F.args_object_init_2 ob _) F.entry_enumerate_new (enum_new1 B) ⟨g1, ?_⟩
  show _ ∧ _
  rw [e1]
  have e2 := Heap.get?_push_size (z.heap.push o) (o := { cls := .type "enumerate", data := .fields #[.none, .bool false, .ref z.heap.objs.size, rawInt 0, .none, .none] }) rfl
  rw [e1] at e2
  exact ⟨⟨_, e2, rfl⟩, hQ _ e2 (Heap.get?_push_of_some _ (Heap.get?_push_size _ B.free)) fun b u q => Heap.get?_push_of_some _ (Heap.get?_push_of_some _ q)⟩
/-- pairs (i, the item at i) of a tuple, each a new one -/
def Itp (K : PySem.W.Frag) (a : Addr) (xs : List V) : It := ⟨fun i H => SqT K H a xs ∧ i < xs.length, fun i H v H' => ∃ T x, v = .ref T ∧ H T = none ∧ H' = upd H T (.tup [.int (i : Nat), x]) ∧ xs[i]? = some x, fun i H => SqT K H a xs ∧ xs.length = i⟩
def YTp (xs : List V) : Nat → Hp → V → Hp → Prop := fun i H v H' => ∃ T x, v = .ref T ∧ H T = none ∧ H' = upd H T (.tup [.int (i : Nat), x]) ∧ xs[i]? = some x
theorem walk_tp {K : PySem.W.Frag} {a : Addr} {xs : List V} : Walk (Itp K a xs) xs.length (fun H => SqT K H a xs) (YTp xs) :=
  ⟨fun _ _ hi q => ⟨q, hi⟩, fun _ q => ⟨q, rfl⟩, fun _ _ _ _ _ _ y => y⟩
theorem turn_tp {P : Program} {w : World} {K : PySem.W.Frag} {elts : List Expr} {kk : Nat} {tpos : Pos} {e it a : Addr} {xs : List V} :
    Turn P w K (.Tuple elts kk tpos) (Itp K a xs) [e, it] e (fun i h => (∃ old, IsEnum h e it ((i : Nat) : Int) old) ∧ h.IsTupleIter it a i ∧ e ≠ it ∧ a ≠ it ∧ a ≠ e) where
  mem := List.mem_cons_self
  obj := by
    rintro i h ⟨⟨old, he⟩, ⟨o, ho, hc, hd⟩, _⟩ b hb
    rcases List.mem_cons.mp hb with z | z
    · rw [z]
      exact ⟨_, he, fun v q => nomatch q⟩
    · rw [List.mem_singleton.mp z]
      exact ⟨o, ho, fun v q => by rw [hd] at q; cases q⟩
  keep := by
    rintro i h h' ⟨⟨old, he⟩, ⟨o, ho, r⟩, ne⟩ k
    exact ⟨⟨old, k e (List.mem_cons_self) _ he⟩, ⟨o, k it (by simp) _ ho, r⟩, ne⟩
  item := by
    intro X hP hw hK hc i pins s σ H E I hf st hg
    subst hP hw hK
    obtain ⟨⟨old, he⟩, hit, ne, na, nae⟩ := st
    obtain ⟨hT0, hi⟩ := hg
    obtain ⟨its, rv, pl, hz0⟩ := I.tuple hT0
    have gx : xs[i]? = some xs[i] := List.getElem?_eq_getElem hi
    obtain ⟨uv, hu0, ru⟩ := paired_at rv gx
    have el : e < s.heap.objs.size := Heap.lt_size he
    have il : it < s.heap.objs.size := let ⟨_, q, _⟩ := hit; Heap.lt_size q
    have n1 : i < its.toArray.size := by rw [List.size_toArray, ← paired_len rv]; exact hi
    refine wpAny_pyNext_enum_itemC (Draws.tuple (A := X.A.in1) (I.ok.hd hc) it a na its.toArray) he ⟨hit, pl⟩ n1 ne (fun z => ?_) fun u h' tk hu ho hit' hT hz hk => ?_
    · rcases List.mem_cons.mp z with z | z
      · exact ne z
      · exact nae (List.mem_singleton.mp z).symm
    have eu : u = uv := by
      have : its[i]? = some u := (List.getElem?_toArray (xs := its) (i := i)).symm.trans hu
      rw [hu0] at this
      exact (Option.some.inj this).symm
    refine ⟨_, rfl, wpAny_letOwnedTupleGo_enum (s := { s with heap := h', toks := tk + 1 }) ho fun h'' he' sb => ?_⟩
    have nT : s.heap.objs.size ≠ e := Nat.ne_of_gt el
    have hT2 : h''.get? s.heap.objs.size = some { cls := .type "tuple", data := .seq #[.int ((i : Nat) : Int) tk, u] } := (sb.2 _ nT).trans hT
    have new : ObjOk X.prog X.w (upd H s.heap.objs.size (.tup [.int (i : Nat), xs[i]])) h'' s.heap.objs.size (.tup [.int (i : Nat), xs[i]]) :=
      ⟨by show 2 ≤ sizeLine; decide, _, .cons ⟨_, rfl⟩ (.cons (eu ▸ ru) .nil), ⟨_, hT2, rfl, _, rfl⟩⟩
    have I1 : Inv X pins σ (upd H s.heap.objs.size (.tup [.int (i : Nat), xs[i]])) { s with heap := h'', toks := tk + 1 } := by
      refine I.turnedNew (ch := [e, it]) (fun b ob hb q => ?_) hf (Nat.le_refl _) new
      have n1 : b ≠ e := fun z => hb (z ▸ List.mem_cons_self)
      have n2 : b ≠ it := fun z => hb (by rw [z]; exact List.mem_cons_of_mem _ List.mem_cons_self)
      exact (sb.2 b n1).trans (hk b ob n1 n2 q)
    refine ⟨.ref s.heap.objs.size, _, I1, rfl, ⟨_, _, rfl, I.hok.fresh (Nat.le_refl _), rfl, gx⟩, ⟨⟨u, ?_⟩, ?_, ne, na, nae⟩, fun b hb => ?_⟩
    · have q : ((i + 1 : Nat) : Int) = (i : Int) + 1 := by omega
      rw [q]
      exact he'
    · obtain ⟨o, q, r⟩ := hit'.1
      exact ⟨o, (sb.2 it (Ne.symm ne)).trans q, r⟩
    · have lb : b < s.heap.objs.size := by
        rcases List.mem_cons.mp hb with z | z
        · rw [z]
          exact el
        · rw [List.mem_singleton.mp z]
          exact il
      rw [upd_ne (Nat.ne_of_lt lb)]
      exact (hf b hb).1
  done := by
    intro X hP hw hK hc i pins s σ H E I hf st hg
    subst hP hw hK
    obtain ⟨⟨old, he⟩, hit, ne, na, nae⟩ := st
    obtain ⟨hT0, hi⟩ := hg
    subst hi
    obtain ⟨its, rv, pl, hz0⟩ := I.tuple hT0
    have D := Draws.tuple (prog := X.prog) (w := X.w) (A := X.A.in1) (I.ok.hd hc) it a na its.toArray
    have n1 : its.toArray.size = xs.length := by rw [List.size_toArray, ← paired_len rv]
    obtain ⟨f0, f1, f2, f3, f4, f5⟩ := hf it (by simp)
    rw [n1] at D
    exact wpAny_pyNext_enum_endD D he ⟨hit, pl⟩ fun h' eb => ⟨rfl, I.turned (t' := s.toks) (fun b o hb q => eb b o hb q) f0 f1 f3 f4 f5⟩
  self := fun A i s Q E ⟨⟨_, he⟩, _⟩ h => wpAny_pyIter_enum he h
/-- enumerate(e), e a tuple -/
def iEnumT (K : PySem.W.Frag) (ta : TA) : TI := fun σ H R => ta σ H fun vs H1 => ∃ a xs, vs = [.ref a] ∧ SqT K H1 a xs ∧ R (Itp K a xs) H1
theorem pi_enumT {X : Cx} {e : Expr} {ta : TA} {p pos tpos : Pos} {elts : List Expr} {kk : Nat} (hg : Gl X "enumerate") (hm : X.mg "enumerate" = none) (ha : PA X [e] ta) (hs : starEach [e] X.env = [(false, eval e X.env)] := by rfl) :
    PI X (.Tuple elts kk tpos) (.Call (.Name "enumerate" p) [e] [] pos) (iEnumT X.K ta) := by
  refine ⟨fun pins s σ H R I h => Call_ (ld_blt I hg hm boot_enumerate (PyProof.Rows.callWith_type1 (thn (ha.run pos pins s σ H _ I h) ?_) hs rfl))⟩
  rintro us s1 ⟨vs, H1, I1, r1, a, xs, rfl, hT0, q⟩
  obtain ⟨u, rfl, ru⟩ := vals1 r1
  cases ru
  obtain ⟨its, rv, pl, hz0⟩ := I1.tuple hT0
  have la : a < s1.heap.objs.size := let ⟨_, q, _⟩ := pl; Heap.lt_size q
  refine enum_call1 (begins_tuple a its.toArray) pl fun h' he ho hk => wpAny_pyIter_enum he ⟨_, [s1.heap.objs.size + 1, s1.heap.objs.size], _, _, H1, rfl, I1.kept (t' := s1.toks) hk, turn_tp (a := a) (xs := xs), ⟨⟨.none, he⟩, ⟨_, ho, rfl, rfl⟩, Nat.succ_ne_self _, Nat.ne_of_lt la, Nat.ne_of_lt (Nat.lt_succ_of_lt la)⟩, fun b hb => ?_, q⟩
  have lb : s1.heap.objs.size ≤ b := by
    rcases List.mem_cons.mp hb with z | z
    · rw [z]
      exact Nat.le_succ _
    · rw [List.mem_singleton.mp z]
      exact Nat.le_refl _
  exact I1.fpOk lb (I1.hok.fresh lb)
end Gr

set_option Elab.async false
set_option maxRecDepth 100000
set_option maxHeartbeats 4000000
set_option linter.all false
/-! Ours: max(numbers, default=k). -/
namespace Gr
open PySem PySem.Spec PyProof.Rows L2 GxR
def maxI (k : Int) : List Int → Int
  | [] => k
  | n :: ns => ns.foldl max n
theorem ints_reads {h : Heap} : ∀ {ns : List Int} {us : List Value}, Vals (ns.map V.int) us → ∃ as, ReadsAll h us (ns.map PyData.int) as
  | [], _, .nil => ⟨_, .nil⟩
  | n :: ns, _, .cons r t => by
    obtain ⟨tk, rfl⟩ := r
    obtain ⟨as, q⟩ := ints_reads (ns := ns) t
    exact ⟨_, .cons (.int n tk) q⟩
theorem ints_depth (ns : List Int) : PyData.depthAll (ns.map PyData.int) ≤ 2 := by
  induction ns with
  | nil => simp [PyData.depthAll]
  | cons n l ih =>
    simp only [List.map_cons, PyData.depthAll, PyData.depth]
    omega
theorem ints_alike (ns : List Int) : PySem.W.AlikeAll (ns.map PyData.int) := by
  refine ⟨fun x hx y hy => ?_, fun x hx => ?_⟩
  · obtain ⟨a, _, rfl⟩ := List.mem_map.mp hx
    obtain ⟨b, _, rfl⟩ := List.mem_map.mp hy
    rfl
  · obtain ⟨a, _, rfl⟩ := List.mem_map.mp hx
    exact fun z => nomatch z
def rMaxDef (K : PySem.W.Frag) : List V → List V → Hp → VK → Prop := fun vs zs H Q => ∃ (a : Addr) (ns : List Int) (k : Int), vs = [.ref a] ∧ zs = [.int k] ∧ SqL K H a (ns.map V.int) ∧ Q (.int (maxI k ns)) H
theorem call_maxDef {X : Cx} (hd : X.A.handled = none) (hu : X.A.units + 64 < cLine) : CallRK X (.builtin "max") [("default" : Str)] (rMaxDef X.K) := by
  intro pins s σ H xs zs us ws Q I rx rz h
  obtain ⟨a, ns, k, rfl, rfl, hS, q⟩ := h
  obtain ⟨u, rfl, ru⟩ := vals1 rx
  obtain ⟨uw, rfl, rw2⟩ := vals1 rz
  cases ru
  obtain ⟨t, rfl⟩ := rw2
  obtain ⟨its, rv, pl, hz⟩ := I.list hS
  obtain ⟨as, ra⟩ := ints_reads (h := s.heap) rv
  refine PySem.W.max_list_default (xs := ns.map PyData.int) (d := .int k t) hd pl.isList (by exact ra) (ints_alike ns) (by have := ints_depth ns; omega) (fun e h' tk hk => ?_) (fun y ys i v h' tk bs e hv hr hk => ?_)
  · cases ns with
    | nil => exact ⟨.int k, H, I.kept (t' := tk) hk, ⟨t, rfl⟩, q⟩
    | cons n l => cases e
  · cases ns with
    | nil => cases e
    | cons n l =>
      have e1 : y = .int n := (List.cons.inj e).1.symm
      have e2 : ys = l.map PyData.int := (List.cons.inj e).2.symm
      subst e1
      subst e2
      rw [PySem.W.maxD_ints] at hr
      cases hr
      exact ⟨.int _, H, I.kept (t' := tk) hk, ⟨_, rfl⟩, q⟩
end Gr

set_option Elab.async false
set_option maxRecDepth 100000
set_option maxHeartbeats 4000000
set_option linter.all false
/-! Ours: sum of a tuple of numbers; a walk within a comprehension. -/
namespace Gr
open PySem PySem.Spec PyProof.Rows L2 GxR
def rSumT (K : PySem.W.Frag) : List V → Hp → VK → Prop := fun vs H Q => ∃ (a : Addr) (ns : List Int), vs = [V.ref a] ∧ SqT K H a (ns.map V.int) ∧ Q (.int ns.sum) H
theorem cr_sumT {X : Cx} (hd : X.A.handled = none) : CallR X (.builtin "sum") (rSumT X.K) := by
  intro pins s σ H vs us Q I r h
  obtain ⟨a, ns, rfl, hT, q⟩ := h
  obtain ⟨its, rv, pl, _⟩ := I.tuple hT
  rw [Vals.ref1 r]
  have hI := rv.ints
  obtain ⟨zs, ez⟩ := hI.allInts.items
  have en : numsOf its.toArray.toList = ns := by rw [show its.toArray.toList = its from rfl]; exact hI.numsOf
  rw [ez] at pl en
  rw [nums_intItems] at en
  refine PySem.W.ktm_sumG hd pl fun h' tk t' hk => ?_
  rw [preSum_eq, List.take_of_length_le (by simp), en]
  exact ⟨.int _, H, I.kept hk, ⟨_, rfl⟩, q⟩
/-- a walk's turns, the body told by what it goes on to -/
theorem lp_it {J : It} {n : Nat} {G : Hp → Prop} {Y : Nat → Hp → V → Hp → Prop} (w : Walk J n G Y) {H0 : Hp} {Stop : Hp → Prop} {body : V → Hp → (Hp → Prop) → Prop} (Pv : Nat → Hp → Prop) (h0 : Pv 0 H0) (hG : ∀ i H, i ≤ n → Pv i H → G H)
    (hs : ∀ i x H H', i < n → Pv i H → Y i H x H' → body x H' (Pv (i + 1))) (hd : ∀ H, Pv n H → Stop H) :
    ∃ W : Nat → Nat → Hp → Prop, (∃ m, W 0 m H0) ∧ ∀ i m H, W i m H → (J.stop i H ∧ Stop H) ∨ (J.go i H ∧ ∃ N : Hp → Prop, (∀ H', N H' → ∃ m', m' < m ∧ W (i + 1) m' H') ∧ ∀ x H', J.yld i H x H' → body x H' N) := by
  refine ⟨fun i m H => m = n - i ∧ i ≤ n ∧ Pv i H, ⟨n, by simp, Nat.zero_le _, h0⟩, ?_⟩
  rintro i m H ⟨rfl, le, p⟩
  by_cases lt : i < n
  · exact .inr ⟨w.goes i H lt (hG i H le p), Pv (i + 1), fun H' p' => ⟨n - (i + 1), by omega, rfl, lt, p'⟩, fun x H' y => hs i x H H' lt p (w.yields i H x H' lt (hG i H le p) y)⟩
  · have e : i = n := by omega
    subst e
    exact .inl ⟨w.stops H (hG _ H le p), hd H p⟩
end Gr

set_option Elab.async false
set_option linter.all false
set_option maxRecDepth 100000
set_option maxHeartbeats 4000000
/-! Ours: a tuple times any small number, 0 and 1 among them. -/
namespace Gr
open PySem PySem.Spec PyProof.Rows L2
theorem tuple_mul1 (l : Addr) (items : Array Value) (n : Nat) (dd : Option Addr) (sl : Array (Option Value)) (u : Tok) :
    Meets (Builtin.«tuple.__mul__» ⟨[.ref l, .int 1 u], []⟩) (fun _ R s => s.heap.get? l = some { cls := .type "tuple", dict := dd, data := .seq items n, slots := sl } ∧
      R (.ok (.ret (Value.ref l))) s) :=
  .of_wp fun prog w A R s h => by
    obtain ⟨hp, g, d, tk, os⟩ := s
    obtain ⟨hl, h⟩ := h
    have f1 := AutoSeq1.idx_int
    wp_walk using wpAny_loadPart' hl
    exact ⟨_, rfl, h⟩
theorem tuple_mul0 (l : Addr) (items : Array Value) (n : Nat) (dd : Option Addr) (sl : Array (Option Value)) (u : Tok) (hi : items.isEmpty = false) :
    Meets (Builtin.«tuple.__mul__» ⟨[.ref l, .int 0 u], []⟩) (fun _ R s => s.heap.get? l = some { cls := .type "tuple", dict := dd, data := .seq items n, slots := sl } ∧
      R (.ok (.ret (Value.ref s.heap.objs.size))) { s with heap := s.heap.push { cls := Value.type "tuple", data := Data.seq #[] }, toks := s.toks }) :=
  .of_wp fun prog w A R s h => by
    obtain ⟨hp, g, d, tk, os⟩ := s
    obtain ⟨hl, h⟩ := h
    have f1 := AutoSeq1.idx_int
    wp_walk using wpAny_loadPart' hl
    exact ⟨_, rfl, h⟩
def rRepA (K : PySem.W.Frag) : R2 := fun x y H Q => ∃ l k xs, x = .ref l ∧ y = .int k ∧ SqT K H l xs ∧ xs ≠ [] ∧ 0 ≤ k ∧ k ≤ 1000 ∧ xs.length ≤ 1000 ∧ (k = 1 → Q (.ref l) H) ∧ (k ≠ 1 → ∀ p, H p = none → Q (.ref p) (upd H p (.tup (List.replicate k.toNat xs).flatten)))
section
variable {X : Cx}
theorem op_repA : OpR X (binaryOp .Mult) (rRepA X.K) := by
  intro pins s σ H x y v u Q I rx ry h
  obtain ⟨l, k, xs, rfl, rfl, hT, hne, h1, h2, hz, q1, q2⟩ := h
  by_cases h2k : 2 ≤ k
  · exact op_repT pins s σ H _ _ v u Q I rx ry ⟨l, k, xs, rfl, rfl, hT, hne, h2k, h2, hz, q2 (by omega)⟩
  cases rx
  obtain ⟨t, rfl⟩ := ry
  obtain ⟨its, r, ⟨⟨cls, dd, data, sl⟩, ho, hc, n, hd⟩, hs⟩ := I.tuple hT
  simp only at hc hd
  subst hc hd
  have hle : its.length = xs.length := r.length.symm
  have hn : its ≠ [] := fun e => hne (by
    rw [e] at hle
    exact List.eq_nil_of_length_eq_zero hle.symm)
  have hi : its.toArray.isEmpty = false := by
    cases its with
    | nil => exact absurd rfl hn
    | cons a b => rfl
  by_cases k1 : k = 1
  · subst k1
    refine wpAny_binaryOp_repeat_ref (T := "tuple") (U := "int") (by decide) ⟨_, ho, rfl⟩ (fun s' => typeIs_int s' 1 t) noFill_tuple_mul F.fills_int_mul F.slot_int_rmul repeat_tuple F.slot_int_index.lookup
      (call_meets F.slot_int_rmul (typeIs_int s 1 t) F.entry_int_rmul (F.args_int_rmul_2 _ _) (int_rmul_tuple 1 t l its.toArray n dd sl)
        ⟨ho, rfl, ⟨_, ho, rfl⟩, call_meets F.slot_tuple_mul ⟨_, ho, rfl⟩ F.entry_tuple_mul (F.args_tuple_mul_2 _ _) (tuple_mul1 l its.toArray n dd sl t) ⟨ho, ?_⟩⟩)
    exact ⟨.ref l, H, I, rfl, q1 rfl⟩
  · have k0 : k = 0 := by omega
    subst k0
    refine wpAny_binaryOp_repeat_ref (T := "tuple") (U := "int") (by decide) ⟨_, ho, rfl⟩ (fun s' => typeIs_int s' 0 t) noFill_tuple_mul F.fills_int_mul F.slot_int_rmul repeat_tuple F.slot_int_index.lookup
      (call_meets F.slot_int_rmul (typeIs_int s 0 t) F.entry_int_rmul (F.args_int_rmul_2 _ _) (int_rmul_tuple 0 t l its.toArray n dd sl)
        ⟨ho, rfl, ⟨_, ho, rfl⟩, call_meets F.slot_tuple_mul ⟨_, ho, rfl⟩ F.entry_tuple_mul (F.args_tuple_mul_2 _ _) (tuple_mul0 l its.toArray n dd sl t hi) ⟨ho, ?_⟩⟩)
    refine ⟨.ref s.heap.objs.size, _, I.laid (t' := s.toks) (o := .tup []) (fun b ob q => Heap.get?_push_of_some _ q) (Nat.le_refl _) ?_, rfl, q2 (by decide) _ (I.hok.fresh (Nat.le_refl _))⟩
    exact ⟨Nat.zero_le _, _, .nil, IsTup.new _ _⟩
end
end Gr

set_option Elab.async false
set_option linter.all false
set_option maxRecDepth 100000
set_option maxHeartbeats 4000000
/-! Ours: a tuple == (). -/
namespace Gr
open PySem PySem.Spec PyProof.Rows L2
def rEqT0 (K : PySem.W.Frag) : R2 := fun x y H Q => ∃ a b xs, x = .ref a ∧ y = .ref b ∧ SqT K H a xs ∧ SqT K H b [] ∧ Q (.bl (decide (xs.length = 0))) H
section
variable {X : Cx}
theorem op_eqT0 (hu : X.A.units + 64 < cLine) : OpR X (compareOp .Eq) (rEqT0 X.K) := by
  intro pins s σ H x y v u Q I rx ry h
  obtain ⟨a, b, xs, rfl, rfl, ha, hb, q⟩ := h
  cases rx
  cases ry
  obtain ⟨its, r1, p1, _⟩ := I.tuple ha
  obtain ⟨its2, r2, p2, _⟩ := I.tuple hb
  cases r2
  refine SeqAt.eq_tupleAt (e := fun _ => true) p1 p2 (by omega) (fun j h1 h2 => absurd h2 (Nat.not_lt_zero _)) ⟨.bl _, H, I, rfl, ?_⟩
  have e : ((List.range (min its.toArray.size ([] : List Value).toArray.size)).all (fun _ => true) && its.toArray.size == ([] : List Value).toArray.size) = decide (xs.length = 0) := by
    rw [r1.length, List.size_toArray]
    cases its with
    | nil => rfl
    | cons a l =>
      show (_ && (((a :: l).length) == 0)) = _
      simp
  rw [e]
  exact q
end
end Gr

set_option Elab.async false
set_option maxRecDepth 100000
set_option maxHeartbeats 2000000
set_option linter.all false
/-! Ours: all(.. for a, b in e), e a tuple of pairs of data, over a quiet element that reads captured names of the def. -/
namespace Gr
open PySem PySem.Spec PyProof.Rows L2 GxR
theorem letGo_tupleiter {prog : Program} {w : World} {A : Around} {E : Value → Shared → Prop} {s : Shared} {elts : List Expr} {x1} {pos : Pos} {I l T : Addr} {i : Nat} {Q : Unit → Shared → Prop} (hit : s.heap.IsTupleIter I l i) (hQ : Q () s) :
    wpAny (model prog w) A (letOwnedTupleGo (.Tuple elts x1 pos) (.ref I) (.ref T)) Q E s := by
  obtain ⟨o, ho, hc, hd⟩ := hit
  unfold letOwnedTupleGo
  refine wpAny_bind (wpAny_load ho ?_)
  rw [hc, hd]
  show wpAny _ A (if (["enumerate", "zip", "dict_itemiterator", "dict_reverseitemiterator", "odict_iterator", "itertools.zip_longest", "itertools.pairwise"].contains "tuple_iterator" &&
      (#[.ref l, .int i 0] : Array Value)[0]? == some (rawInt T)) = true then _ else _) Q E s
  rw [if_neg (by
    intro h
    rw [show (["enumerate", "zip", "dict_itemiterator", "dict_reverseitemiterator", "odict_iterator", "itertools.zip_longest", "itertools.pairwise"].contains "tuple_iterator") = false from by decide, Bool.false_and] at h
    cases h)]
  exact wpAny_pure hQ
theorem walks_tt {prog : Program} {w : World} {A : Around} (hh : A.handled = none) (I ax : Addr) (hne : ax ≠ I) (items : Array Value) (Ts : Nat → Addr) (vals : Nat → Array Value)
    (hit : ∀ j, j < items.size → items[j]? = some (.ref (Ts j))) (hTI : ∀ j, j < items.size → Ts j ≠ I) :
    WalksU prog w A I (I :: ax :: (List.range items.size).map Ts) [I] items.size (fun j v => j < items.size ∧ v = vals j)
      (fun j h => h.IsTupleIter I ax j ∧ h.IsTuple ax items ∧ ∀ k, k < items.size → h.IsTuple (Ts k) (vals k))
      (fun j T h => (j < items.size ∧ T = Ts j) ∧ h.IsTupleIter I ax (j + 1) ∧ h.IsTuple ax items ∧ ∀ k, k < items.size → h.IsTuple (Ts k) (vals k)) where
  sub := fun b hb => by simp at hb; simp [hb]
  frame := fun _ _ _ st hk => ⟨st.1.at fun o e => hk I (by simp) o e, st.2.1.at fun o e => hk ax (by simp) o e,
    fun k hk' => (st.2.2 k hk').at fun o e => hk (Ts k) (List.mem_cons_of_mem _ (List.mem_cons_of_mem _ (List.mem_map.mpr ⟨k, List.mem_range.mpr hk', rfl⟩))) o e⟩
  item := fun i s Q E hi st hQ => by
    refine wpAny_pyNext_tuple_item st.1 st.2.1 (x := .ref (Ts i)) (hit i hi) fun h' hit' hs' => ?_
    have tup : ∀ k, k < items.size → h'.IsTuple (Ts k) (vals k) := fun k hk' => (st.2.2 k hk').extBut hs'.extBut (hTI k hk')
    exact hQ (Ts i) (vals i) h' s.toks ⟨hi, rfl⟩ (tup i hi) ⟨⟨hi, rfl⟩, hit', st.2.1.extBut hs'.extBut hne, tup⟩ fun b o hb e => hs'.extBut b o (fun h => hb (by simp [h])) e
  go := fun _ _ _ _ _ s Q _ hm hQ => letGo_tupleiter hm.2.1 (hQ s.heap hm.2 fun _ _ _ e => e)
  apart := fun j T _ hm hmem => by
    rcases List.mem_cons.mp hmem with e | e
    · exact hTI j hm.1.1 (hm.1.2 ▸ e)
    · cases e
  done := fun s Q E st hQ => wpAny_pyNext_tuple_end hh st.1 st.2.1 (by simp) fun h' he' => hQ h' s.toks fun b o hb e => he' b o (fun h => hb (by simp [h])) e
  self := fun _ _ _ _ st hQ => wpAny_pyIter_tupleiter st.1 hQ
/-- captured names and what they hold -/
inductive FrD (h : Heap) (cells : List (Str × Addr)) : List Str → List PyData → Prop
  | nil : FrD h cells [] []
  | cons {x : Str} {xs : List Str} {d : PyData} {ds : List PyData} {c : Addr} {u : Value} : cells.lookup x = some c → h.IsCell c (some u) → Vd h u d → szD d → FrD h cells xs ds → FrD h cells (x :: xs) (d :: ds)
inductive CapD (K : PySem.W.Frag) (H : Hp) (σ : L2.St) : List Nat → List PyData → Prop
  | nil : CapD K H σ [] []
  | cons {i : Nat} {is : List Nat} {v : V} {d : PyData} {ds : List PyData} : σ[i]? = some (some v) → Dq K H v d → CapD K H σ is ds → CapD K H σ (i :: is) (d :: ds)
def tw (q : PyData × PyData) : PyData := .tuple [q.1, q.2]
def EltTF (X : Cx) (k : Nat) (scope : Scope) (xa xb : Str) (xs : List Str) (elt : Expr) (dom : List PyData → PyData × PyData → Prop) (pb : List PyData → PyData × PyData → Bool) : Prop :=
  ∀ (en : Env) (m : Str → Option Value) (h0 : Heap) (va vb : Value) (q : PyData × PyData) (fd : List PyData), en.scope = scope → Qc X.K X.mg X.base en → m xa = some va → m xb = some vb → Vd h0 va q.1 → Vd h0 vb q.2 → FrD h0 en.cells xs fd → dom fd q → QE X.prog X.w X.base h0 k en m elt (.bool (pb fd q))
inductive CapN (X : Cx) (scope : Scope) : List Str → List Nat → Prop
  | nil : CapN X scope [] []
  | cons {x : Str} {xs : List Str} {i : Nat} {is : List Nat} : X.N[i]? = some x → X.env.kindOf x = some .cell → (x, NameKind.free) ∈ scope.names → CapN X scope xs is → CapN X scope (x :: xs) (i :: is)
structure GenTF (X : Cx) (scope : Scope) (xa xb : Str) (xs : List Str) (is : List Nat) : Prop where
  kind : scope.kind = .function
  co : scope.isCoroutine = false
  cell : ∀ y ∈ scope.names, y.2 ≠ .cell
  dot : scope.names.lookup (".0" : Str) = some NameKind.local
  la : scope.names.lookup xa = some .local
  lb : scope.names.lookup xb = some .local
  ab : xa ≠ xb
  free : ∀ y ∈ scope.names, y.2 = .free → ∃ c, X.env.cells.lookup y.1 = some c
  cap : CapN X scope xs is
section
variable {X : Cx} {pins : List (Addr × Obj)} {σ : L2.St} {H : Hp} {s : Shared}
theorem clo_lookup {cells : List (Str × Addr)} {names : List (Str × NameKind)} {x : Str} (hx : (x, NameKind.free) ∈ names) : (cloFrom cells names []).lookup x = some ((cells.lookup x).getD 0) := by
  obtain ⟨c', e'⟩ := mem_lookup (cloFrom_has (cells := cells) (acc := []) hx)
  rw [e']
  rcases cloFrom_mem (PySem.mem_of_lookup e') with h | h
  · cases h
  · rw [h.2]
theorem cap_fr {xs : List Str} {is : List Nat} {fd : List PyData} {scope : Scope} (I : Inv X pins σ H s) (h : CapN X scope xs is) (c : CapD X.K H σ is fd) :
    FrD s.heap (cloFrom X.env.cells scope.names []) xs fd := by
  induction h generalizing fd with
  | nil => cases c; exact .nil
  | cons n1 n2 n3 _ ih =>
    cases c with
    | cons e1 e2 e3 =>
      obtain ⟨m, _, hl⟩ := I.loc
      obtain ⟨u, ru, lk⟩ := hl _ _ _ n1 e1 (.inr (.inl n2))
      rcases lk with ⟨z, _⟩ | ⟨_, c, hc, hcell⟩
      · rw [n2] at z; cases z
      · obtain ⟨as, r, _⟩ := e2.reads I u ru
        refine .cons ?_ hcell ⟨as, r⟩ (Dq.sz I e2) (ih e3)
        rw [clo_lookup n3, hc]
        rfl
theorem FrD.but {h h' : Heap} {P : Addr} {ps : Array Value} (k : ∀ b o, b ≠ P → h.get? b = some o → h'.get? b = some o) (p0 : h.get? P = some { cls := .none, data := .fields ps }) {cells : List (Str × Addr)} {xs : List Str} {fd : List PyData} (f : FrD h cells xs fd) : FrD h' cells xs fd := by
  induction f with
  | nil => exact .nil
  | cons a b r z _ ih =>
    obtain ⟨o, e1, e2⟩ := b
    obtain ⟨as, r⟩ := r
    refine .cons a ⟨o, k _ _ (fun q => ?_) e1, e2⟩ ⟨as, reads_but k p0 rfl r⟩ z ih
    rw [q, p0] at e1
    cases e1
    cases e2
def pairB (f : PyData × PyData → Bool) : PyData → Bool
  | .tuple [a, b] => f (a, b)
  | _ => false
theorem pair_all {f : PyData × PyData → Bool} (l : List (PyData × PyData)) : (l.map tw).all (pairB f) = l.all f := by
  rw [List.all_map]
  rfl
theorem vd_two {h : Heap} {v : Value} {q : PyData × PyData} (r : Vd h v (tw q)) : ∃ T va vb, v = .ref T ∧ h.IsTuple T #[va, vb] ∧ Vd h va q.1 ∧ Vd h vb q.2 := by
  obtain ⟨t, its, rfl, ht, ha⟩ := vd_tup r
  obtain ⟨l⟩ := its
  cases ha with
  | cons a b => cases b with
    | cons b c => cases c; exact ⟨t, _, _, rfl, ht, a, b⟩
theorem genTF {c P : Addr} {elt iter : Expr} {xa xb : Str} {qa qb qt gpos : Pos} {kt : Nat} {scope : Scope} {xs : List Str} {is : List Nat} {dom : List PyData → PyData × PyData → Prop} {pb : List PyData → PyData × PyData → Bool} {te : TE} {k : Nat} {W : Value → Shared → Prop} {R : List (PyData × PyData) → List PyData → Hp → Prop}
    (hr : Room (k + 1) X.A) (TB : TabB X.base X.mg c P) (hcode : X.env.code = .ref c) (S : GenTF X scope xa xb xs is) (hi : PE X iter te) (hel : EltTF X k scope xa xb xs elt dom pb)
    (hs : ∀ v, genFold iter X.env v = pure v) (I : Inv X pins σ H s) (h : te σ H fun v H1 => ∃ pr fd, Dq X.K H1 v (.tuple (pr.map tw)) ∧ CapD X.K H1 σ is fd ∧ (∀ q ∈ pr, dom fd q) ∧ TabG H1 P ∧ R pr fd H1)
    (hQ : ∀ pr fd H1 g z, R pr fd H1 → ReadyD X pins σ H1 P (pr.map tw) (pairB (pb fd)) g z → W (.ref g) z) :
    wpAny (model X.prog X.w) X.A (eval (.GeneratorExp elt [⟨.Tuple [.Name xa qa, .Name xb qb] kt qt, iter, [], 0⟩] scope gpos) X.env) W X.xe s := by
  refine wpAny_GeneratorExp_walksQTD hr.hd S.co (closure_ok S.free) S.cell S.dot S.la S.lb S.ab S.kind hr.depth (thn (hi.run pins s σ H _ I h) ?_) hs
  rintro xv s1 ⟨v, H1, I1, r1, pr, fd, hd, hcap, hdom, ⟨ps, hP, ht⟩, q1⟩
  obtain ⟨asv, rv, _⟩ := hd.reads I1 xv r1
  obtain ⟨tt, its, rfl, hit, hva⟩ := vd_tup ⟨asv, rv⟩
  have hsz : its.size = pr.length := by rw [← List.length_map (f := tw), ← hva.len, Array.length_toList]
  have hfr := cap_fr I1 S.cap hcap
  have each : ∀ j, ∃ q : Addr × Value × Value, ∀ hj : j < pr.length, its[j]? = some (.ref q.1) ∧ s1.heap.IsTuple q.1 #[q.2.1, q.2.2] ∧ Vd s1.heap q.2.1 pr[j].1 ∧ Vd s1.heap q.2.2 pr[j].2 := by
    intro j
    by_cases hj : j < pr.length
    · obtain ⟨v', hv', rv'⟩ := hva.get (i := j) (d := tw pr[j]) (by rw [List.getElem?_map, List.getElem?_eq_getElem hj]; rfl)
      obtain ⟨T, va, vb, rfl, a1, a2, a3⟩ := vd_two rv'
      exact ⟨(T, va, vb), fun _ => ⟨by rw [← Array.getElem?_toList]; exact hv', a1, a2, a3⟩⟩
    · exact ⟨default, fun q => absurd q hj⟩
  obtain ⟨qf, hqf⟩ := Classical.axiomOfChoice each
  have tlt : tt < s1.heap.objs.size := let ⟨_, e, _⟩ := hit; Heap.lt_size e
  have qlt : ∀ j, j < its.size → (qf j).1 < s1.heap.objs.size := fun j hj => let ⟨_, ⟨_, e, _⟩, _⟩ := hqf j (by omega); Heap.lt_size e
  refine wpAny_pyIter_tuple hit ⟨I1.nolimit.push _, code_then I1 TB hcode hP ht fun cv h3 tk more up lt hp ht' lim => ?_⟩
  have p0 : s1.heap.get? P = some { cls := .none, data := .fields ps } := I1.hok P _ hP
  have pl : P < s1.heap.objs.size := Heap.lt_size p0
  have at1 : ∀ b, b ∈ [s1.heap.objs.size] → b = s1.heap.objs.size := fun b hb => List.mem_singleton.mp hb
  have cl : cStatics < s1.heap.objs.size := let ⟨_, n, _⟩ := I1.nolimit; n.lt
  have notP : ∀ {T its'}, s1.heap.IsTuple T its' → T ≠ P := fun {T its'} hT e => by
    obtain ⟨o, e1, e2, _⟩ := hT
    rw [e, p0] at e1
    cases e1
    cases e2
  have up0 : ∀ b u, b ≠ P → s1.heap.get? b = some u → h3.get? b = some u := fun b u n e => by
    exact up b u n (Heap.get?_push_of_some _ e)
  have tn : tt ≠ s1.heap.objs.size := Nat.ne_of_lt tlt
  refine ⟨s1.heap.objs.size, s1.heap.objs.size :: tt :: (List.range its.size).map (fun j => (qf j).1), [s1.heap.objs.size], its.size, _, _, _, fun _ => true, fun i y => ∃ d, (pr.map tw)[i]? = some d ∧ y = .bool (pairB (pb fd) d), rfl,
    fun A' hh => walks_tt hh _ _ tn its (fun j => (qf j).1) (fun j => #[(qf j).2.1, (qf j).2.2]) (fun j hj => (hqf j (by omega)).1) (fun j hj => Nat.ne_of_lt (qlt j hj)), fun i vals hv => ⟨_, _, hv.2⟩, ⟨⟨_, up _ _ (fun e => ?_) (Heap.get?_push_size _ rfl), rfl, rfl⟩, ?_, fun j hj => ?_⟩, fun b hb => ?_, lim, fun z => ?_, fun href hh => ?_, ?_⟩
  · rw [← e] at pl
    exact Nat.lt_irrefl _ pl
  · have nP := notP hit
    obtain ⟨o, e1, e2⟩ := hit
    exact ⟨o, up0 _ _ nP e1, e2⟩
  · have hT := (hqf j (by omega)).2.1
    have nP := notP hT
    obtain ⟨o, e1, e2⟩ := hT
    exact ⟨o, up0 _ _ nP e1, e2⟩
  · rcases List.mem_cons.mp hb with e | e
    · rw [e]; exact lt
    · rcases List.mem_cons.mp e with e | e
      · rw [e]
        exact Nat.lt_trans tlt lt
      · obtain ⟨j, hj, rfl⟩ := List.mem_map.mp e
        exact Nat.lt_trans (qlt j (List.mem_range.mp hj)) lt
  · rw [at1 _ z] at cl
    exact Nat.lt_irrefl _ cl
  · constructor
    · intro B E' i va vb z m _ _ _ _ _ _ _ _
      rw [List.forIn_nil]
      exact wpAny_pure ⟨rfl, keeps_refl _⟩
    · intro B E' i va vb z m hB hD hU hv _ hn hma hmb hk
      obtain ⟨hi1, hv⟩ := hv
      have hi2 : i < pr.length := by omega
      obtain ⟨_, _, rz1, rz2⟩ := hqf i hi2
      have ea : va = (qf i).2.1 := by
        have := congrArg (fun a : Array Value => a[0]?) hv
        exact Option.some.inj this
      have eb : vb = (qf i).2.2 := by
        have := congrArg (fun a : Array Value => a[1]?) hv
        exact Option.some.inj this
      have keepA : ∀ b o, b ≠ P → s1.heap.get? b = some o → z.heap.get? b = some o := fun b o nb e => by
        have lb : b < s1.heap.objs.size := Heap.lt_size e
        refine hk b (List.mem_range.mpr (Nat.lt_trans lb lt)) (fun q => ?_) _ (hh _ _ (up0 b o nb e))
        rw [at1 b q] at lb
        exact Nat.lt_irrefl _ lb
      have room : Room k B := ⟨hB, by have := hr.dp; omega, by have := hr.un; omega⟩
      have rq1 : Vd z.heap va pr[i].1 := by
        rw [ea]
        obtain ⟨as2, r2⟩ := rz1
        exact ⟨as2, reads_but keepA p0 rfl r2⟩
      have rq2 : Vd z.heap vb pr[i].2 := by
        rw [eb]
        obtain ⟨as2, r2⟩ := rz2
        exact ⟨as2, reads_but keepA p0 rfl r2⟩
      refine thn (hel _ m z.heap va vb pr[i] fd rfl ⟨I1.mod, S.kind, ?_, rfl⟩ hma hmb rq1 rq2 (hfr.but keepA p0) (hdom _ (List.getElem_mem hi2)) B E' z ⟨room, fun b o e => ?_, fun _ _ e => e, hn⟩) fun y z' r => ⟨⟨tw pr[i], by rw [List.getElem?_map, List.getElem?_eq_getElem hi2]; rfl, vd_bool r.1⟩, r.2⟩
      · exact I1.ok.glob
      · obtain ⟨e1, e2⟩ := I1.bs b o e
        exact keepA b o (fun q => by rw [q, hP] at e2; cases e2) e1
  · intro g h5 tk5 gs gb ag sz5 k5 W5 hat
    simp only [GxR.passing_true, List.length_range] at W5
    have hsz' : its.size = (pr.map tw).length := by rw [hsz, List.length_map]
    rw [hsz'] at W5 hat
    refine hQ pr fd H1 g _ q1 ⟨_, _, _, _, _, W5.in4_1, hat, ?_, fun s' mv => ?_⟩
    · rintro j y z Q' E' ⟨i, hij, d, hd2, rfl⟩ q
      obtain ⟨hj, ej⟩ := List.getElem?_eq_some_iff.mp hij
      rw [List.getElem_range] at ej
      cases ej
      have q' : Q' (trD (pairB (pb fd)) (pr.map tw) j) z := q
      unfold trD at q'
      rw [hd2] at q'
      exact wpAny_truthy_bool q'
    · have nw : ∀ b u, s1.heap.get? b = some u → b ∉ h3.objs.size :: [s1.heap.objs.size] := fun b u e hb => by
        have l := Heap.lt_size e
        have l2 : s1.heap.objs.size < h3.objs.size := lt
        rcases List.mem_cons.mp hb with z | z
        · rw [z] at l
          exact Nat.lt_asymm l l2
        · rw [at1 b z] at l
          exact Nat.lt_irrefl _ l
      have J := inv_tab (more := more) (h' := s'.heap) (g' := s'.gens) (d' := s'.drawn) (t' := s'.toks) I1 hP (fun b u n e => mv.heap b u (nw b u e) (k5 b u (up0 b u n e))) (mv.heap P _ (nw P _ p0) (k5 P _ hp)) (AllBare.movedS (I1.bare.push gb) mv)
      have es : ({ s1 with heap := s'.heap, gens := s'.gens, drawn := s'.drawn, toks := s'.toks } : Shared) = s' := by
        obtain ⟨_, _, _, _, _⟩ := s'
        have := mv.os
        dsimp only at this
        rw [this]
      rw [es] at J
      exact ⟨upd H1 P (.tbl (ps ++ more)), ⟨⟨_, upd_same, ht'⟩, fun b hb => upd_ne hb⟩, J⟩
def tAllTF (K : PySem.W.Frag) (P : Addr) (is : List Nat) (dom : List PyData → PyData × PyData → Prop) (pb : List PyData → PyData × PyData → Bool) (te : TE) : TE := fun σ H Q => te σ H fun v H1 => ∃ (pr : List (PyData × PyData)) (fd : List PyData), Dq K H1 v (.tuple (pr.map tw)) ∧ CapD K H1 σ is fd ∧ (∀ q ∈ pr, dom fd q) ∧ TabG H1 P ∧ ∀ H2, Tabbed P H1 H2 → Q (.bl (pr.all (pb fd))) H2
/-- all(elt for a, b in e), e a tuple of pairs -/
theorem pe_allTF {c P : Addr} {elt iter : Expr} {xa xb : Str} {qa qb qt p pos gpos : Pos} {kt : Nat} {scope : Scope} {xs : List Str} {is : List Nat} {dom : List PyData → PyData × PyData → Prop} {pb : List PyData → PyData × PyData → Bool} {te : TE} {k : Nat}
    (hr : Room (k + 1) X.A) (hg : Gl X "all") (hm : X.mg "all" = none) (TB : TabB X.base X.mg c P) (hcode : X.env.code = .ref c) (S : GenTF X scope xa xb xs is) (hi : PE X iter te) (hel : EltTF X k scope xa xb xs elt dom pb)
    (hs : ∀ v, genFold iter X.env v = pure v)
    (he : starEach [.GeneratorExp elt [⟨.Tuple [.Name xa qa, .Name xb qb] kt qt, iter, [], 0⟩] scope gpos] X.env = (false, eval (.GeneratorExp elt [⟨.Tuple [.Name xa qa, .Name xb qb] kt qt, iter, [], 0⟩] scope gpos) X.env) :: starEach [] X.env := by rfl) :
    PE X (.Call (.Name "all" p) [.GeneratorExp elt [⟨.Tuple [.Name xa qa, .Name xb qb] kt qt, iter, [], 0⟩] scope gpos] [] pos) (tAllTF X.K P is dom pb te) := by
  refine ⟨fun pins s σ H Q I h => wpAny_Call_Name_kw (ld_blt I hg hm boot_all (PyProof.Rows.callWith_builtin1 ?_ he (by rfl)))⟩
  rw [he]
  show wpAny _ _ (spliced ((false, eval (.GeneratorExp elt [⟨.Tuple [.Name xa qa, .Name xb qb] kt qt, iter, [], 0⟩] scope gpos) X.env) :: backTo pos (starEach [] X.env))) _ _ s
  refine Calls.spliced_cons (genTF (R := fun pr fd H1 => ∀ H2, Tabbed P H1 H2 → Q (.bl (pr.all (pb fd))) H2) hr TB hcode S hi hel hs I h ?_)
  rintro pr fd H1 g z hR ⟨fp, wr, G, F, St, W, hst, htr, hI⟩
  refine Calls.spliced_nil (call_all_walkS (W.self 0 _ _ _ hst ⟨g, fp, wr, G, _, F, St, _, rfl, W, hst, htr, fun s' mv => ?_⟩))
  obtain ⟨H2, hT, J⟩ := hI s' mv
  rw [trD_all (pairB (pb fd)) (pr.map tw), pair_all]
  exact ⟨.bl _, H2, J, rfl, hR H2 hT⟩
end
end Gr

set_option Elab.async false
set_option maxRecDepth 100000
set_option maxHeartbeats 2000000
set_option linter.all false
/-! Ours: quiet code, more: captured names, a - b, -a, e[i] of any sign. -/
namespace Gr
open PySem PySem.Spec PyProof.Rows L2 GxR
section
variable {P : Program} {w : World} {K : PySem.W.Frag} {mg : Str → Option Value} {base h0 : Heap} {k : Nat} {env : Env} {m : Str → Option Value}
theorem qe_free {x : Str} {p : Pos} {c : Addr} {u : Value} {d : PyData} (C : Qc K mg base env) (hl : env.scope.names.lookup x = some .free) (hc : env.cells.lookup x = some c) (hv : h0.IsCell c (some u)) (hr : Vd h0 u d) (hn : (x == ("__classdict__" : Str)) = false := by decide) (hd : (x == ("__debug__" : Str)) = false := by decide) :
    QE P w base h0 k env m (.Name x p) d := fun B E z q => by
  obtain ⟨o, e1, e2⟩ := hv
  exact wpAny_Name (wpAny_loadName_free C.kind hl hc ⟨o, q.up _ _ e1, e2⟩ ⟨hr.up q.up, keeps_refl _⟩ hn) hd
theorem qe_sub {a b : Expr} {i j : Int} {pos : Pos} (ha : QE P w base h0 k env m a (.int i)) (hb : QE P w base h0 k env m b (.int j)) : QE P w base h0 k env m (.BinOp a .Sub b pos) (.int (i - j)) := by
  intro B E z q
  refine wpAny_BinOp (thn (ha B E z q) fun u z1 ⟨r1, k1⟩ => thn (hb B E z1 (q.next k1)) fun v z2 ⟨r2, k2⟩ => ?_)
  obtain ⟨t, rfl⟩ := vd_int r1
  obtain ⟨t', rfl⟩ := vd_int r2
  exact sub_int ⟨⟨_, .int _ _⟩, kt k1 (kt k2 (keeps_tok _ _))⟩
theorem qe_neg {a : Expr} {i : Int} {pos : Pos} (ha : QE P w base h0 k env m a (.int i)) : QE P w base h0 k env m (.UnaryOp .USub a pos) (.int (-i)) := by
  intro B E z q
  refine UnaryOp_ (thn (ha B E z q) fun u z1 ⟨r1, k1⟩ => ?_)
  obtain ⟨t, rfl⟩ := vd_int r1
  exact neg_int ⟨⟨_, .int _ _⟩, kt k1 (keeps_tok _ _)⟩
theorem qe_ixA {e sl : Expr} {i : Int} {pos : Pos} {ds : List PyData} {d : PyData} (he : QE P w base h0 k env m e (.tuple ds)) (hi : QE P w base h0 k env m sl (.int i)) (ha : atI ds i = some d) (hl : ds.length ≤ sizeLine) (hs : ∀ o v, subscripted sl false o v = operate [o, v] (getItem o v) := by intro _ _; with_unfolding_all rfl) :
    QE P w base h0 k env m (.Subscript e sl pos) d := by
  intro B E z q
  refine Subscript_ (thn (he B E z q) fun u z1 ⟨r1, k1⟩ => thn (hi B E z1 (q.next k1)) fun x z2 ⟨r2, k2⟩ => ?_)
  obtain ⟨t, its, rfl, ht, hall⟩ := vd_tup (r1.up (kk k2))
  obtain ⟨t', rfl⟩ := vd_int r2
  have hn := line63
  have hz : its.size = ds.length := by
    have := hall.len
    rw [← this, Array.length_toList]
  obtain ⟨j, e1, e2, e3, e4, e5⟩ := atI_get ha
  obtain ⟨v, hv, rv⟩ := hall.get e2
  have hv' : its[j]? = some v := by rw [← Array.getElem?_toList]; exact hv
  refine subscriptTail_builtinR (x := v) ht.typeIs slot_tuple_getitem.lookup (getItem_tuple (j := j) (Q := fun r s' => r = v ∧ (Vd s'.heap r d ∧ Keeps z s')) ht (by omega) (by omega) (by rw [hz]; exact e1) hv' ⟨rfl, rv, kt k1 k2⟩) (hs _ _)
theorem qe_lt {a b : Expr} {i j : Int} {pos : Pos} (ha : QE P w base h0 k env m a (.int i)) (hb : QE P w base h0 k env m b (.int j)) (hm : behindInMarks .Lt b = false := by with_unfolding_all rfl) : QE P w base h0 k env m (.Compare a [.Lt] [b] pos) (.bool (decide (i < j))) :=
  qe_cmp (c := fun i j => decide (i < j)) ha hb (fun q => lt_int q) hm
theorem qe_ge {a b : Expr} {i j : Int} {pos : Pos} (ha : QE P w base h0 k env m a (.int i)) (hb : QE P w base h0 k env m b (.int j)) (hm : behindInMarks .GtE b = false := by with_unfolding_all rfl) : QE P w base h0 k env m (.Compare a [.GtE] [b] pos) (.bool (decide (j ≤ i))) :=
  qe_cmp (c := fun i j => decide (j ≤ i)) ha hb (fun q => ge_int q) hm
end
end Gr

set_option Elab.async false
set_option maxRecDepth 100000
set_option maxHeartbeats 4000000
set_option linter.all false
/-! Ours: t[::-1] of a tuple. -/
namespace Gr
open PySem PySem.Spec PyProof.Rows L2 GxR HT
theorem all_at {α : Type} : ∀ l : List α, (List.range l.length).filterMap (fun k => l[k]?) = l
  | [] => rfl
  | a :: l => by
    rw [List.length_cons, List.range_succ_eq_map, List.filterMap_cons]
    show a :: _ = _
    rw [List.filterMap_map]
    exact congrArg (a :: ·) (all_at l)
theorem fm_congr {α β : Type} {f g : α → Option β} : ∀ l : List α, (∀ k ∈ l, f k = g k) → l.filterMap f = l.filterMap g
  | [], _ => rfl
  | a :: l, h => by
    rw [List.filterMap_cons, List.filterMap_cons, h a List.mem_cons_self, fm_congr l fun k hk => h k (List.mem_cons_of_mem _ hk)]
theorem pick_rev (xs : Array Value) : ((List.range xs.size).filterMap fun (k : Nat) => xs[(((xs.size : Int) - 1) + (k : Int) * (-1)).toNat]?).toArray = xs.toList.reverse.toArray := by
  have h := all_at xs.toList.reverse
  rw [List.length_reverse, Array.length_toList] at h
  rw [← h]
  congr 1
  refine fm_congr _ fun k hk => ?_
  have hk := List.mem_range.mp hk
  rw [List.getElem?_reverse (by rw [Array.length_toList]; exact hk), Array.length_toList, Array.getElem?_toList]
  congr 1
  omega
theorem sliceApplied_rev {prog : Program} {w : World} {A : Around} {E : Value → Shared → Prop} {s : Shared} {sl : Addr} {n : Nat} {u : Tok} {Q : Int × Int × Nat → Shared → Prop} (hs : s.heap.IsSliceOf sl .none .none (.int (-1) u))
    (h : Q ((n : Int) - 1, -1, n) s) : wpAny (model prog w) A (Builtin.Slice.sliceApplied (.ref sl) (pure (n : Int))) Q E s := by
  obtain ⟨os, hos, hcs, hds⟩ := id hs
  unfold Builtin.Slice.sliceApplied Builtin.Slice.sliceFields
  refine wpAny_bind (wpAny_bind (wpAny_field hos hds (x := .none) rfl (wpAny_bind (wpAny_field hos hds (x := .none) rfl (wpAny_bind (wpAny_field hos hds (x := .int (-1) u) rfl (wpAny_pure ?_)))))))
  refine wpAny_bind (slicePart_ (o := some (-1)) (by first | exact ⟨u, rfl⟩ | exact .int _ _ | rfl) ?_)
  show wpAny _ _ (if ((-1 : Int) == 0) = true then _ else _) _ _ s
  rw [if_neg (by decide)]
  refine wpAny_bind (slicePart_none (wpAny_bind (slicePart_none (wpAny_bind (wpAny_pure ?_)))))
  have e : Builtin.Slice.slicePlaces ((n : Int) - 1) (-1) (-1) = n := by
    unfold Builtin.Slice.slicePlaces
    rw [if_neg (by decide)]
    by_cases z : n = 0
    · subst z
      rfl
    · rw [if_pos (by omega), show -(-1 : Int) = 1 from rfl, Int.ediv_one]
      omega
  show wpAny _ _ (pure ((n : Int) - 1, (-1 : Int), Builtin.Slice.slicePlaces ((n : Int) - 1) (-1) (-1))) _ _ s
  rw [e]
  exact wpAny_pure h
theorem getItem_tuple_rev {prog : Program} {w : World} {A : Around} {E : Value → Shared → Prop} {s : Shared} {t sl : Addr} {items : Array Value} {u : Tok} {Q : Value → Shared → Prop} (ht : IsTup s.heap t items) (hs : s.heap.IsSliceOf sl .none .none (.int (-1) u))
    (h : Q (.ref s.heap.objs.size) { s with heap := s.heap.push { cls := .type "tuple", data := .seq items.toList.reverse.toArray } }) (hsz : items.size ≤ sizeLine) : wpAny (model prog w) A (getItem (.ref t) (.ref sl)) Q E s := by
  obtain ⟨os, hos, hcs, hds⟩ := id hs
  have hTs : s.TypeIs (.ref sl) "slice" := ⟨os, hos, hcs⟩
  unfold getItem
  try with_reducible refine wpAny_holding ?_
  first | refine wpAny_bind (wpAny_pure ?_) | skip
  refine wpAny_bind (wpAny_sequenceKey ht.typeIs (by decide) ?_)
  refine wpAny_bind (wpAny_callSpecial?_slot (name := Str.ofString "__getitem__") ht.typeIs PyProof.Rows.slot_tuple_getitem
    (wpAny_call_entry PyProof.Rows.slot_tuple_getitem ht.typeIs entry_tuple_getitem ?_ (args_tuple_getitem _ _)))
  show wpAny _ _ (Builtin.Tuple.tupleItemsOf (.ref t) >>= _) _ _ s
  refine wpAny_bind (tupleItemsOf_ ht ?_)
  refine wpAny_bind (wpAny_typeOf hTs ?_)
  rw [if_pos (by decide)]
  refine wpAny_bind (sliceApplied_rev hs ?_)
  have hno : (((items.size : Int) - 1) == 0 && (-1 : Int) == 1 && items.size == items.size) = false := by
    rw [show ((-1 : Int) == 1) = false by decide, Bool.and_false, Bool.false_and]
  show wpAny _ _ (if (((items.size : Int) - 1) == 0 && (-1 : Int) == 1 && items.size == items.size) = true then _ else _) _ _ s
  rw [if_neg (by rw [hno]; decide)]
  rw [pick_rev]
  have htake : sizeOk (.seq items.toList.reverse.toArray) := by
    show items.toList.reverse.toArray.size ≤ sizeLine
    rw [List.size_toArray, List.length_reverse, Array.length_toList]
    exact hsz
  first
    | exact wpAny_bind (m := Builtin.Tuple.tupleExact _) (wpAny_newObj_type (wpAny_pure ⟨_, rfl, wpAny_pure h⟩) htake)
    | exact wpAny_bind (m := Builtin.Tuple.tupleExact _) (wpAny_newObj_type (wpAny_bind (wpAny_pure (wpAny_pure ⟨_, rfl, wpAny_pure h⟩))) htake)
    | exact wpAny_bind (wpAny_bind (m := Builtin.Tuple.tupleExact _) (wpAny_newObj_type (wpAny_pure (wpAny_pure ⟨_, rfl, wpAny_pure h⟩)) htake))
    | exact wpAny_bind (wpAny_bind (m := Builtin.Tuple.tupleExact _) (wpAny_newObj_type (wpAny_pure ⟨_, rfl, wpAny_pure h⟩) htake))
def tRevT (K : PySem.W.Frag) (te : TE) : TE := fun σ H Q => te σ H fun x H1 => ∃ a xs, x = .ref a ∧ SqT K H1 a xs ∧ ∀ p, H1 p = none → Q (.ref p) (upd H1 p (.tup xs.reverse))
section
variable {X : Cx} {te : TE}
/-- t[::-1] -/
theorem pe_revT {e : Expr} {k : Nat} {p1 p2 p3 pos : Pos} (he : PE X e te) : PE X (.Subscript e (.Slice none none (some (.UnaryOp .USub (.Constant (.int 1) k p1) p2)) p3) pos) (tRevT X.K te) := by
  refine ⟨fun pins s σ H Q I h => ?_⟩
  refine Subscript_ (thn (he.run pins s σ H _ I h) fun v s1 ⟨x, H1, I1, r1, q1⟩ => ?_)
  obtain ⟨a, xs, ex, hx, q⟩ := q1
  subst ex
  cases r1
  have hst : PO X (some (.UnaryOp .USub (.Constant (.int 1) k p1) p2)) (tPart (tUn (rU fun i => .int (-i)) (tC (.int 1)))) := po_some (pe_un un_neg pe_int)
  refine wpAny_Slice (thn (po_none.run pins s1 σ H1 (fun o H2 => o = none ∧ H2 = H1) I1 ⟨rfl, rfl⟩) fun vl s2 ⟨l, H2, I2, pl, el, e2⟩ => ?_)
  subst el e2
  refine thn (po_none.run pins s2 σ H2 (fun o H3 => o = none ∧ H3 = H2) I2 ⟨rfl, rfl⟩) fun vu s3 ⟨u, H3, I3, pu, eu, e3⟩ => ?_
  subst eu e3
  refine thn (hst.run pins s3 σ H3 (fun o H4 => o = some (-1) ∧ H4 = H3) I3 ⟨1, rfl, -1, rfl, rfl, rfl⟩) fun vs s4 ⟨o, H4, I4, ps, eo, e4⟩ => ?_
  subst eo e4
  have I5 : Inv X pins σ H4 { s4 with heap := s4.heap.push { cls := .type "slice", data := .fields #[vl, vu, vs] } } := I4.kept (t' := s4.toks) fun b ob q => Heap.get?_push_of_some _ q
  obtain ⟨its, r, ht, hz⟩ := I5.tuple hx
  have hlen := r.length
  cases pl
  cases pu
  cases ps with
  | int i t =>
  show wpAny (model X.prog X.w) X.A (subscriptTail e (.Slice none none (some (.UnaryOp .USub (.Constant (.int 1) k p1) p2)) p3) (.ref a) (.ref s4.heap.objs.size)) (EP X pins σ Q) X.xe { s4 with heap := s4.heap.push { cls := .type "slice", data := .fields #[.none, .none, .int (-1) t] } }
  refine tail_any (ops := [.ref a, .ref s4.heap.objs.size]) ht.typeIs (PyProof.Rows.slot_tuple_getitem.lookup) ?_ (by with_unfolding_all rfl)
  refine getItem_tuple_rev ht (Heap.IsSliceOf.new _ .none .none (.int (-1) t)) ?_ (by rw [List.size_toArray]; omega)
  refine ⟨.ref _, _, I5.laid (t' := s4.toks) (o := .tup xs.reverse) (fun b ob q => Heap.get?_push_of_some _ q) (Nat.le_refl _) ?_, rfl, q _ (I5.hok.fresh (Nat.le_refl _))⟩
  exact ⟨by rw [List.length_reverse]; exact hlen ▸ hz, _, r.reverse, IsTup.new _ _⟩
end
end Gr

set_option Elab.async false
set_option maxRecDepth 100000
set_option maxHeartbeats 4000000
set_option linter.all false
/-! Ours: sorted(a tuple of numbers). -/
namespace Gr
open PySem PySem.Spec PyProof.Rows L2 GxR SrtO
section
variable {prog : Program} {w : World} {A : Around} {E : Value → Shared → Prop} {s : Shared}
def colH (h : Heap) (vs : List Value) : Heap := (h.push (seqObj "list" #[] 0)).update h.objs.size (Obj.mapSeq (· ++ vs.toArray))
theorem colH_size (h : Heap) (vs : List Value) : (colH h vs).objs.size = h.objs.size + 1 := by unfold colH; rw [Heap.size_update, size_push']
theorem colH_old {h : Heap} {vs : List Value} {b : Addr} {o : Obj} (q : h.get? b = some o) : (colH h vs).get? b = some o := by
  unfold colH
  rw [Heap.get?_update_ne _ _ _ _ (Nat.ne_of_lt (Heap.lt_size q))]
  exact Heap.get?_push_of_some _ q
/-- the elements of a tuple, gathered -/
theorem gather_tup {t : Addr} {vs : List Value} {Q : List Value → Shared → Prop} (ht : IsTup s.heap t vs.toArray) (hz : vs.length ≤ sizeLine) (k : Q vs { s with heap := colH s.heap vs }) : wpAny (model prog w) A (collect (.ref t)) Q E s := by
  obtain ⟨o, go, co, m, dt⟩ := id ht
  unfold collect
  refine wpAny_bind (wpAny_runValue (codeAny_builtin entry_proto_collect' (?_ : wpAny _ _ _ _ _ _)))
  show wpAny _ _ (do let l ← newList []; again (.builtin "list.__iadd__" ⟨[l, .ref t], []⟩)) _ _ s
  refine wpAny_bind (wpAny_newList (wpAny_pure (And.intro (Code.quiet_builtin _ (by decide +kernel)) (codeAny_builtin entry_list_iadd' ?_))))
  show wpAny _ _ (Builtin.List.listExtendWith (.ref (s.heap.objs.size)) (.ref t) (.ref (s.heap.objs.size))) _ _ (Shared.mk _ _ _ _ _)
  unfold Builtin.List.listExtendWith
  have g2 : (s.heap.push (seqObj "list" #[] 0)).get? t = some o := Heap.get?_push_of_some (seqObj "list" #[] 0) go
  refine wpAny_bind (wpAny_typeOf (T := "tuple") ⟨o, g2, co⟩ ?_)
  rw [if_pos (by rw [show (Value.type "tuple" == Value.type "tuple") = true from rfl, Bool.or_true])]
  refine wpAny_bind (listItems_at g2 dt (wpAny_bind (listItems_at (xs := #[]) (n := 0) (Heap.get?_push_size _ rfl) rfl ?_)))
  rw [if_neg (by simp)]
  have fits : (#[] ++ vs.toArray : Array Value).size ≤ sizeLine + 1 := by simp only [Array.size_append, List.size_toArray, List.length_nil]; omega
  refine wpAny_bind (listUpdate_at (xs := #[]) (n := 0) (Heap.get?_push_size _ rfl) rfl (wpAny_pure ?_) (Nat.zero_le _) fits)
  show wpAny (model prog w) A (do let r ← load s.heap.objs.size
                                  match r.data with
                                  | .seq xs _ => pure xs.toList
                                  | _ => unsupported "internal:collect") Q E { s with heap := colH s.heap vs }
  refine wpAny_bind (wpAny_load (get?_update_seq (Heap.get?_push_size _ rfl) _) (?_ : wpAny _ _ (pure ((#[] : Array Value) ++ vs.toArray).toList) _ _ _))
  rw [show ((#[] : Array Value) ++ vs.toArray).toList = vs from by simp]
  exact wpAny_pure k
theorem sorted_tup {t : Addr} {vs : List Value} {ns : List Int} {Q : Value → Shared → Prop} (ht : IsTup s.heap t vs.toArray) (hI : IntsAre vs ns) (hz : vs.length ≤ sizeLine)
    (k : ∀ out : List Value, Srtd ltIv out → Stb ltIv out vs → Q (.ref (s.heap.objs.size + 1)) { s with heap := sortedAll s.heap vs out.toArray }) : wpAny (model prog w) A (call (.builtin "sorted") [.ref t]) Q E s := by
  refine call_function_entry_kw kind_sorted plain_sorted entry_sorted (kw := []) (args_sorted1 _) (?_ : wpAny _ _ _ _ _ _)
  unfold Builtin.«sorted»
  refine wpAny_bind (m := checkCount "sorted" 1 1 _) (wpAny_pure (wpAny_bind (gather_tup ht hz (wpAny_bind (wpAny_newList (?_ : wpAny _ _ _ _ _ _) hz)))))
  have hat : ((colH s.heap vs).push (seqObj "list" vs.toArray 0)).get? (s.heap.objs.size + 1) = some (seqObj "list" vs.toArray 0) := by
    rw [← colH_size s.heap vs]
    exact Heap.get?_push_size _ rfl
  have old : ∀ b o, s.heap.get? b = some o → b ≠ s.heap.objs.size + 1 ∧ ((colH s.heap vs).push (seqObj "list" vs.toArray 0)).get? b = some o := fun b o q => ⟨Nat.ne_of_lt (Nat.lt_succ_of_lt (Heap.lt_size q)), Heap.get?_push_of_some _ (colH_old q)⟩
  show wpAny _ _ _ _ _ { s with heap := (colH s.heap vs).push (seqObj "list" vs.toArray 0) }
  rw [show ({ s with heap := colH s.heap vs } : Shared).heap.objs.size = s.heap.objs.size + 1 from colH_size s.heap vs]
  refine wpAny_bind (wpAny_holding (wpAny_call_entry slot_list_sort ⟨_, hat, rfl⟩ entry_list_sort (list_sort_ord swo_int hat hz (fun h2 => ints_sortable hI h2) (fun out h1 h2 => ⟨_, rfl, wpAny_pure ⟨_, rfl, k out h1 h2⟩⟩)) (args_list_sort _)))
end
/-- sorted(a tuple of ints) -/
def rSortedT (K : PySem.W.Frag) : List V → Hp → VK → Prop := fun vs H Q => ∃ (a : Addr) (ns : List Int), vs = [.ref a] ∧ SqT K H a (ns.map V.int) ∧
  ∀ (ms : List Int) (p : Addr), ms.Perm ns → ms.Pairwise (· ≤ ·) → H p = none → Q (.ref p) (upd H p (.lst (ms.map V.int)))
theorem cr_sortedTup {X : Cx} : CallR X (.builtin "sorted") (rSortedT X.K) := by
  intro pins s σ H vs us Q I r h
  obtain ⟨a, ns, rfl, hs, q⟩ := h
  obtain ⟨its, rv, tp, hz⟩ := I.tuple hs
  rw [Vals.ref1 r]
  have hi := rv.ints
  refine sorted_tup tp hi (rv.length ▸ hz) fun out h1 h2 => ?_
  obtain ⟨k1, k2, k3⟩ := ints_out hi h1 h2
  obtain ⟨ep, hat⟩ := sortedAll_at s.heap its out.toArray
  have hl : ((out.map iv).map V.int).length ≤ sizeLine := by
    rw [List.length_map] at hz ⊢
    exact Nat.le_trans (Nat.le_of_eq k2.length_eq) hz
  exact ⟨.ref _, upd H (s.heap.objs.size + 1) (.lst ((out.map iv).map V.int)), I.laid (t' := s.toks) (fun _ _ => sortedAll_old) (Nat.le_succ _) ⟨hl, out, ep, vals_of_ints k1, hat⟩, rfl, q _ _ k2 k3 (I.hok.fresh (Nat.le_succ _))⟩
end Gr

set_option Elab.async false
set_option maxRecDepth 100000
set_option maxHeartbeats 4000000
set_option linter.all false
/-! Ours: t.index(k) of a tuple of numbers. -/
namespace Gr
open PySem PySem.Spec PyProof.Rows L2 GxR
def rIdxI (K : PySem.W.Frag) : V → List V → Hp → VK → Prop := fun x xs H Q => ∃ (p : Addr) (ns : List Int) (k : Int), x = .ref p ∧ xs = [.int k] ∧ SqT K H p (ns.map V.int) ∧ k ∈ ns ∧ Q (.int (ns.idxOf k : Nat)) H
theorem mt_tup_ints {X : Cx} : MtR X "tuple.index" (rIdxI X.K) := by
  intro pins s σ H x xs v us Q I rx rs h
  obtain ⟨p, ns, k, rfl, rfl, hq, hk, q⟩ := h
  cases rx
  obtain ⟨u, rfl, t, rfl⟩ := vals1 rs
  obtain ⟨its, r, pl, hz⟩ := I.tuple hq
  exact PySem.SeqAt.tuple_index_ints pl r.ints hk ⟨.int _, H, I.tok _, ⟨_, rfl⟩, q⟩
theorem mt_tup_intsB {X : Cx} {s : Shared} {H : Hp} {sc : Scope} {en : Env} {fp : List Addr} : MtR (X.blk s H sc en fp) "tuple.index" (rIdxI X.K) := mt_tup_ints
end Gr

set_option Elab.async false
set_option maxRecDepth 100000
set_option maxHeartbeats 4000000
set_option linter.all false
/-! Ours: a new tuple of which the whole object is known (frozen); its index(k); thawed when it is read once more. -/
namespace Gr
open PySem PySem.Spec PyProof.Rows L2 GxR
section
variable {X : Cx}
/-- tuple(a list): a frozen one -/
theorem call_tuple_frz : CallR X (.type "tuple") (fun xs H Q => ∃ p ys, xs = [.ref p] ∧ SqL X.K H p ys ∧ ∀ (l : Addr) (o : Obj), H l = none → o.dict = none → Q (.ref l) (upd H l (.frz o (.tup ys)))) := by
  intro pins s σ H xs us Q I r h
  obtain ⟨p, ys, rfl, hq, q⟩ := h
  obtain ⟨u, rfl, rx⟩ := vals1 r
  cases rx
  obtain ⟨its, rv, pl, hz⟩ := I.list hq
  have hl := rv.length
  refine call_tuple_list pl.isList (fun h2 kp => ?_) (by rw [List.size_toArray]; omega)
  have J := (I.kept (h' := h2) (t' := s.toks) kp).laid (h' := h2.push { cls := .type "tuple", data := .seq its.toArray }) (a := h2.objs.size) (t' := s.toks) (o := .frz { cls := .type "tuple", data := .seq its.toArray } (.tup ys)) (fun b o e => Heap.get?_push_of_some _ e) (Nat.le_refl _)
    ⟨Heap.get?_push_size _ rfl, hz, its, rv, IsTup.new _ _⟩
  exact ⟨.ref h2.objs.size, _, J, rfl, q _ _ ((I.kept (h' := h2) (t' := s.toks) kp).hok.fresh (Nat.le_refl _)) rfl⟩
/-- a name of a frozen thing, thawed -/
def tThaw (H0 : Hp) (te : TE) : TE := fun σ H Q => te σ H fun x H1 => ∃ (d : Addr) (o : Obj) (u : HO), x = .ref d ∧ H1 d = some (.frz o u) ∧ (∀ o' u', H0 d ≠ some (.frz o' u')) ∧ Q (.ref d) (upd H1 d u)
theorem pe_thaw {e : Expr} {te : TE} (h : PE X e te) : PE X e (tThaw X.H_0 te) := by
  refine ⟨fun pins s σ H Q I hq => ?_⟩
  refine thn (h.run pins s σ H _ I hq) fun v s1 ⟨x, H1, I1, r1, q1⟩ => ?_
  obtain ⟨d, o, u, rfl, e1, e2, q2⟩ := q1
  exact ⟨.ref d, _, I1.unlock e1 e2, r1, q2⟩
def tIdxF (k : Int) (to : TE) : TE := fun σ H Q => to σ H fun x H1 => ∃ (d : Addr) (o : Obj) (ns : List Int), x = .ref d ∧ H1 d = some (.frz o (.tup (ns.map V.int))) ∧ o.dict = none ∧ k ∈ ns ∧ Q (.int (ns.idxOf k : Nat)) H1
theorem pe_idxF {o e : Expr} {to : TE} {k : Int} {p1 p2 : Pos} (ho : PE X o to) (he : PE X e (tC (.int k)))
    (h1 : attributeBase o "index" X.env (eval o X.env) = eval o X.env)
    (h2 : ((backTo p2 (starEach [e] X.env)).all (fun x => !x.1) && (backToKw p2 (keywordEach [] X.env)).all (fun x => x.1.isSome) && decide (([e] : List Expr).length + ([] : List Keyword).length + (if ([] : List Keyword).isEmpty then 0 else 1) < 30)) = true)
    (h3 : (p1.endLine == p2.line) = true) (h4 : starEach [e] X.env = (false, eval e X.env) :: starEach [] X.env) (h5 : (backTo p2 (starEach [] X.env)).any (·.1) = false) : PE X (.Call (.Attribute o "index" p1) [e] [] p2) (tIdxF k to) := by
  refine ⟨fun pins s σ H Q I hq => wpAny_Call_method_late h1 h2 h3 rfl (thn (ho.run pins s σ H _ I hq) fun v s1 ⟨x, H1, I1, r1, q1⟩ => ?_)⟩
  obtain ⟨d, ob, ns, rfl, e1, e2, hk, q2⟩ := q1
  have ok := I1.hok d _ e1
  obtain ⟨g1, g2, its, g3, oo, g4, g5, g6⟩ := ok
  cases r1
  have eo : ob = oo := Option.some.inj (g1.symm.trans g4)
  refine ⟨"tuple", "tuple.index", PySem.F.plainAttrs_tuple, PySem.F.slot_tuple_index, PySem.F.type_tuple_index, ⟨ob, g1, eo ▸ g5⟩, fun a ea => by cases ea; exact ⟨ob, g1, e2⟩, ?_⟩
  have hA := (pa_cons he pa_nil h4).run p2 pins s1 σ H1 (fun vs H2 => vs = [.int k] ∧ H2 = H1) I1 ⟨rfl, rfl⟩
  rw [h4] at hA ⊢
  refine Calls.callWith_builtin (by show (false || (backTo p2 (starEach [] X.env)).any (·.1)) = false; rw [h5]; rfl) (Calls.evalArgs_plain (thn hA fun us s2 ⟨vs, H2, I2, r2, a, b⟩ => ?_))
  subst a b
  exact mt_tup_ints pins s2 σ _ (.ref d) [.int k] _ us Q I2 rfl r2 ⟨d, ns, k, rfl, rfl, .inl (.inr ⟨ob, e1⟩), hk, q2⟩
end
end Gr

set_option Elab.async false
set_option maxRecDepth 100000
set_option linter.all false
/-! Ours: the repr of a tuple of numbers; lists of numbers that are equal. -/
namespace Gr
open PySem PySem.Spec PyProof.Rows L2 GxR
theorem shown_num {i : Int} (h0 : 0 ≤ i) (h1 : i < 10 ^ 10) : (PyData.int i).shown.length ≤ 11 := by
  rw [PyData.shown_int]
  show (Str.ofString (toString i)).length ≤ 11
  rw [PySem.ofString_length]
  exact int_text_length_le10 (by decide) (by omega)
theorem showall_nums : ∀ {l : List Int}, (∀ i ∈ l, 0 ≤ i ∧ i < 10 ^ 10) → PyData.showableAll (l.map PyData.int) = true
  | [], _ => rfl
  | i :: l, h => by
    have ih := showall_nums (l := l) fun j hj => h j (List.mem_cons_of_mem _ hj)
    have h1 := h i List.mem_cons_self
    have h2 : i.natAbs.log2 < 1920 := by
      by_cases z : i.natAbs = 0
      · rw [z]; decide
      · exact Nat.lt_of_lt_of_le ((Nat.log2_lt z).mpr (show i.natAbs < 2 ^ 40 by omega)) (by decide)
    simp [PyData.showableAll, PyData.showable, ih, h2]
theorem depthall_nums : ∀ l : List Int, PyData.depthAll (l.map PyData.int) ≤ 2
  | [] => by simp [PyData.depthAll]
  | i :: l => by
    have := depthall_nums l
    simp only [List.map_cons, PyData.depthAll, PyData.depth]
    omega
theorem piled_nums : ∀ {l : List Int}, (∀ i ∈ l, 0 ≤ i ∧ i < 10 ^ 10) → piled (PyData.shownAll (l.map PyData.int)) ≤ 13 * l.length
  | [], _ => by simp [PyData.shownAll, piled_nil]
  | i :: l, h => by
    have ih := piled_nums (l := l) fun j hj => h j (List.mem_cons_of_mem _ hj)
    have h1 := shown_num (h i List.mem_cons_self).1 (h i List.mem_cons_self).2
    simp only [List.map_cons, PyData.shownAll, piled_cons, List.length_cons]
    omega
theorem shown_tup_le (ds : List PyData) : (PyData.tuple ds).shown.length ≤ piled (PyData.shownAll ds) + 3 := by
  rw [PyData.shown_tuple]
  have e1 : ("(" : Str).length = 1 := by decide +kernel
  have e2 : (Str.ofString (if (ds.length == 1) = true then ",)" else ")")).length ≤ 2 := by
    split <;> decide +kernel
  cases ds with
  | nil => decide +kernel
  | cons d r =>
    have h := join_length_add (PyData.shownAll (d :: r)) (by simp [PyData.shownAll])
    rw [Str.length_append, Str.length_append]
    omega
theorem nums_facts {l : List Int} (h : ∀ i ∈ l, 0 ≤ i ∧ i < 10 ^ 10) (n : l.length ≤ 100) : (PyData.tuple (l.map PyData.int)).showable = true ∧ (PyData.tuple (l.map PyData.int)).depth ≤ 60 ∧ (PyData.tuple (l.map PyData.int)).shown.length ≤ sizeLine := by
  have a := showall_nums h
  have b := depthall_nums l
  have c := piled_nums h
  have d := shown_tup_le (l.map PyData.int)
  have mz : 5000 ≤ sizeLine := by decide
  exact ⟨by simp [PyData.showable, a], by simp only [PyData.depth]; omega, by omega⟩
theorem lay_nums : ∀ l : List Int, PyData.canLayAll0 (l.map PyData.int) = true
  | [] => rfl
  | i :: l => by
    have := lay_nums l
    simp [PyData.canLayAll0, PyData.canLay0, this]
theorem shaped_nums (l : List Int) : SeqAt.shaped (.list (l.map PyData.int)) = true := by
  have a := lay_nums l
  have b := depthall_nums l
  unfold SeqAt.shaped
  rw [Bool.and_eq_true, decide_eq_true_eq]
  exact ⟨by simp [PyData.canLay0, a], by simp only [PyData.depth]; omega⟩
theorem eqv_nums (l : List Int) : PyData.eqv (.list (l.map PyData.int)) (.list (l.map PyData.int)) = true :=
  SeqAt.eqv_refl _ (by have a := lay_nums l; simp [PyData.canLay0, a])
theorem dp_nums {K : PySem.W.Frag} {H : Hp} : ∀ l : List Int, DpAll K H (l.map V.int) (l.map PyData.int)
  | [] => .nil
  | i :: l => .cons (.int i) (dp_nums l)
end Gr

set_option Elab.async false
set_option maxRecDepth 100000
set_option maxHeartbeats 4000000
set_option linter.all false
/-! Ours: a dict display of one pair whose key is a tuple. -/
namespace Gr
open PySem PySem.Spec PyProof.Rows L2 GxR
/-- {k: v}, k a tuple of ints and texts; the new dict stands empty while the pair is made -/
def tDispT (tk tv : TE) : TE := fun σ H Q => ∀ p, H p = none → tk σ (upd H p (.dT [])) fun x H1 => tv σ H1 fun y H2 => ∃ b ks, x = .ref b ∧ H2 b = some (.tup (ks.map kV)) ∧ H2 p = some (.dT []) ∧ Q (.ref p) (upd H2 p (.dT [(ks, y)]))
theorem pe_dispT {X : Cx} {k v : Expr} {tk tv : TE} {pos : Pos} (hu : X.A.units < cLine) (hk : PE X k tk) (hv : PE X v tv) : PE X (.Dict [some k] [v] pos) (tDispT tk tv) := by
  refine ⟨fun pins s σ H Q I q => ?_⟩
  have hn := I.hok.fresh (Nat.le_refl s.heap.objs.size)
  have I1 := I.laid (a := s.heap.objs.size) (o := .dT []) (h' := s.heap.push { cls := .type "dict", data := .dict #[] }) (t' := s.toks) (fun _ _ q => Heap.get?_push_of_some _ q) (Nat.le_refl _) (dt_empty s.heap I.big)
  rw [PySem.arm_eval_Dict, PySem.zip_pairTrees [some k] [v] X.env pos rfl rfl, PySem.dictDisplay_pairs _ (by simp [PySem.pairTrees]) (by simp [PySem.pairTrees])]
  refine wpAny_bind (wpAny_standAt (wpAny_bind (PySem.wpAny_subDictH (knd := tupleKind (mixKind X.prog X.w)) hu (by simp [PySem.pairTrees]) ?_)))
  refine PySem.pairTrees_cons_walk (thn (hk.run pins _ σ _ _ I1 (q _ hn)) fun kv s1 ⟨x, H1, I2, rx, q1⟩ => thn (hv.run pins s1 σ H1 _ I2 q1) fun vv s2 ⟨y, H2, I3, ry, b, ks, ex, eb, ed, q2⟩ => PySem.pairTrees_nil_walk ?_)
  subst ex
  cases (show kv = Value.ref b from rx)
  obtain ⟨z, hd, xs, rel, dd⟩ := dt_of I3.hok ed
  cases rel
  refine ⟨[(ks, b, vv)], ⟨rfl, rfl, key_of I3.hok eb, trivial⟩, dd, fun h' tk dd' hs => wpAny_pure ⟨.ref s.heap.objs.size, _, ?_, rfl, q2⟩⟩
  obtain ⟨q, es, ep, hq, h2, h3, h4, _, h5⟩ := dd'
  refine d_write I3 (by rw [ed]; exact True.intro) hs ⟨q, hq⟩ ⟨by show 1 ≤ sizeLine; rw [sizeLine_eq]; decide, hd, _, .cons ⟨rfl, ?_, ry⟩ .nil, q, es, ep, hq, h2, h3, h4, h5⟩
  rw [upd_ne (ne_of eb ed (fun z => nomatch z))]
  exact eb
end Gr

set_option Elab.async false
set_option maxRecDepth 100000
set_option linter.all false
/-! Ours: the repr of lists and tuples of small data: facts. -/
namespace Gr
open PySem PySem.Spec PyProof.Rows L2 GxR
def SmallD (k s : Nat) (d : PyData) : Prop := d.showable = true ∧ d.depth ≤ k ∧ d.shown.length ≤ s
theorem small_none : SmallD 2 11 .none := ⟨rfl, by decide +kernel, by decide +kernel⟩
theorem small_int {i : Int} (h0 : 0 ≤ i) (h1 : i < 10 ^ 10) : SmallD 2 11 (.int i) := by
  have a := showall_nums (l := [i]) (fun j hj => by rw [List.mem_singleton.mp hj]; exact ⟨h0, h1⟩)
  refine ⟨?_, by simp [PyData.depth], shown_num h0 h1⟩
  simpa [PyData.showableAll] using a
theorem showall_of : ∀ {ds : List PyData} {k s : Nat}, (∀ d ∈ ds, SmallD k s d) → PyData.showableAll ds = true
  | [], _, _, _ => rfl
  | d :: ds, k, s, h => by
    have ih := showall_of (ds := ds) fun x hx => h x (List.mem_cons_of_mem _ hx)
    simp [PyData.showableAll, ih, (h d List.mem_cons_self).1]
theorem depthall_of : ∀ {ds : List PyData} {k s : Nat}, (∀ d ∈ ds, SmallD k s d) → PyData.depthAll ds ≤ k + 1
  | [], _, _, _ => by simp [PyData.depthAll]
  | d :: ds, k, s, h => by
    have ih := depthall_of (ds := ds) fun x hx => h x (List.mem_cons_of_mem _ hx)
    have := (h d List.mem_cons_self).2.1
    simp only [PyData.depthAll]
    omega
theorem piled_of : ∀ {ds : List PyData} {k s : Nat}, (∀ d ∈ ds, SmallD k s d) → piled (PyData.shownAll ds) ≤ (s + 2) * ds.length
  | [], _, _, _ => by simp [PyData.shownAll, piled_nil]
  | d :: ds, k, s, h => by
    have ih := piled_of (ds := ds) fun x hx => h x (List.mem_cons_of_mem _ hx)
    have h1 := (h d List.mem_cons_self).2.2
    simp only [PyData.shownAll, piled_cons, List.length_cons, Nat.mul_succ]
    omega
theorem shown_lst_le (ds : List PyData) : (PyData.list ds).shown.length ≤ piled (PyData.shownAll ds) + 3 := by
  rw [PyData.shown_list]
  have e1 : ("[" : Str).length = 1 := by decide +kernel
  have e2 : ("]" : Str).length = 1 := by decide +kernel
  cases ds with
  | nil => decide +kernel
  | cons d r =>
    have h := join_length_add (PyData.shownAll (d :: r)) (by simp [PyData.shownAll])
    rw [Str.length_append, Str.length_append]
    omega
theorem small_tup {ds : List PyData} {k s : Nat} (h : ∀ d ∈ ds, SmallD k s d) : SmallD (k + 2) ((s + 2) * ds.length + 3) (.tuple ds) := by
  have a := showall_of h
  have b := depthall_of h
  have c := piled_of h
  have d := shown_tup_le ds
  exact ⟨by simp [PyData.showable, a], by simp only [PyData.depth]; omega, by omega⟩
theorem small_lst {ds : List PyData} {k s : Nat} (h : ∀ d ∈ ds, SmallD k s d) : SmallD (k + 2) ((s + 2) * ds.length + 3) (.list ds) := by
  have a := showall_of h
  have b := depthall_of h
  have c := piled_of h
  have d := shown_lst_le ds
  exact ⟨by simp [PyData.showable, a], by simp only [PyData.depth]; omega, by omega⟩
theorem SmallD.mono {k s k' s' : Nat} {d : PyData} (h : SmallD k s d) (a : k ≤ k') (b : s ≤ s') : SmallD k' s' d := ⟨h.1, Nat.le_trans h.2.1 a, Nat.le_trans h.2.2 b⟩
theorem SmallD.facts {k s : Nat} {d : PyData} (h : SmallD k s d) (a : k ≤ 60) (b : s ≤ 5000) : d.showable = true ∧ d.depth ≤ 60 ∧ d.shown.length ≤ sizeLine := by
  have mz : 5000 ≤ sizeLine := by decide
  exact ⟨h.1, Nat.le_trans h.2.1 a, Nat.le_trans h.2.2 (by omega)⟩
end Gr

set_option Elab.async false
set_option maxRecDepth 100000
set_option maxHeartbeats 4000000
set_option linter.all false
/-! Ours: data of tuples alone: it stands as long as the tuples stand; lists of such that grow; cuts between statements. -/
namespace Gr
open PySem PySem.Spec PyProof.Rows L2 GxR
mutual
/-- no list and no dict within -/
def tupD : PyData → Bool
  | .none => true
  | .bool _ => true
  | .int _ => true
  | .str _ => true
  | .list _ => false
  | .tuple xs => tupDs xs
  | .dict _ => false
def tupDs : List PyData → Bool
  | [] => true
  | x :: xs => tupD x && tupDs xs
end
theorem tupDs_of : ∀ {ds : List PyData}, (∀ d ∈ ds, tupD d = true) → tupDs ds = true
  | [], _ => by simp [tupDs]
  | d :: ds, h => by
    simp only [tupDs, Bool.and_eq_true]
    exact ⟨h d List.mem_cons_self, tupDs_of fun x hx => h x (List.mem_cons_of_mem _ hx)⟩
theorem tupDs_mem : ∀ {ds : List PyData}, tupDs ds = true → ∀ d ∈ ds, tupD d = true
  | [], _, d, h => nomatch h
  | e :: ds, h, d, hd => by
    simp only [tupDs, Bool.and_eq_true] at h
    rcases List.mem_cons.mp hd with q | q
    · rw [q]; exact h.1
    · exact tupDs_mem h.2 d q
theorem tupD_tup {ds : List PyData} (h : ∀ d ∈ ds, tupD d = true) : tupD (.tuple ds) = true := by
  simp only [tupD]
  exact tupDs_of h
theorem tupD_ints (ns : List Int) : tupD (.tuple (ns.map PyData.int)) = true := tupD_tup fun d hd => by
  obtain ⟨n, _, rfl⟩ := List.mem_map.mp hd
  simp [tupD]
/-- the tuples stand -/
def TupStay (H H' : Hp) : Prop := ∀ a xs, H a = some (.tup xs) → H' a = some (.tup xs)
theorem TupStay.refl (H : Hp) : TupStay H H := fun _ _ e => e
theorem TupStay.trans {H H1 H2 : Hp} (a : TupStay H H1) (b : TupStay H1 H2) : TupStay H H2 := fun x xs e => b x xs (a x xs e)
theorem same_ts {H H' : Hp} (s : Same H H') : TupStay H H' := fun a xs e => s a _ e
theorem stay_ts {H H' : Hp} (s : Stay H H') : TupStay H H' := fun a xs e => s a _ e fun _ q => nomatch q
theorem ts_but {H H' : Hp} {p : Addr} {ys : List V} (e : H p = some (.lst ys)) (b : ∀ b o, H b = some o → b ≠ p → H' b = some o) : TupStay H H' := fun a xs q => b a _ q fun z => by
  rw [z, e] at q
  cases q
theorem ts_put {H : Hp} {D : Addr} {ys : List V} {o : HO} (e : H D = some (.lst ys)) : TupStay H (upd H D o) := fun a xs q => (upd_ne fun z => by
  rw [z, e] at q
  cases q).trans q
theorem ts_new {H : Hp} {D : Addr} {o : HO} (e : H D = none) : TupStay H (upd H D o) := fun a xs q => (upd_ne fun z => by
  rw [z, e] at q
  cases q).trans q
mutual
theorem Od.ts {H H' : Hp} (s : TupStay H H') : ∀ {v : V} {d : PyData}, Od H v d → tupD d = true → Od H' v d
  | _, _, .non, _ => .non
  | _, _, .bl b, _ => .bl b
  | _, _, .int i, _ => .int i
  | _, _, .str x, _ => .str x
  | _, _, .lst e a, h => by simp [tupD] at h
  | _, _, .tup e a, h => .tup (s _ _ e) (OdAll.ts s a (by simpa [tupD] using h))
  | _, _, .dic e a b, h => by simp [tupD] at h
theorem OdAll.ts {H H' : Hp} (s : TupStay H H') : ∀ {vs : List V} {ds : List PyData}, OdAll H vs ds → tupDs ds = true → OdAll H' vs ds
  | _, _, .nil, _ => .nil
  | _, _, .cons a b, h => by
    simp only [tupDs, Bool.and_eq_true] at h
    exact .cons (Od.ts s a h.1) (OdAll.ts s b h.2)
end
theorem Od.unhide {H : Hp} {ls : List Addr} {v : V} {d : PyData} (o : Od (hide H ls) v d) : Od H v d := o.same (hide_same _ _)
/-- at D a list of data of tuples -/
def LstT (H : Hp) (D : Addr) (ds : List PyData) : Prop := ∃ vs, H D = some (.lst vs) ∧ OdAll H vs ds ∧ tupDs ds = true
theorem LstT.at {H : Hp} {D : Addr} (e : H D = some (.lst [])) : LstT H D [] := ⟨[], e, .nil, by simp [tupDs]⟩
theorem LstT.ts {H H' : Hp} {D : Addr} {ds : List PyData} (h : LstT H D ds) (s : TupStay H H') (e : ∀ vs, H D = some (.lst vs) → H' D = some (.lst vs)) : LstT H' D ds :=
  let ⟨vs, a, b, t⟩ := h; ⟨vs, e _ a, b.ts s t, t⟩
theorem LstT.same {H H' : Hp} {D : Addr} {ds : List PyData} (h : LstT H D ds) (s : Same H H') : LstT H' D ds := h.ts (same_ts s) fun vs e => s _ _ e
theorem tupDs_app {ds es : List PyData} (h : tupDs ds = true) (k : tupDs es = true) : tupDs (ds ++ es) = true := tupDs_of fun d hd => by
  rcases List.mem_append.mp hd with q | q
  · exact tupDs_mem h d q
  · exact tupDs_mem k d q
theorem LstT.put {H : Hp} {D : Addr} {ds : List PyData} {vs : List V} {v : V} {d : PyData} (h : LstT H D ds) (e : H D = some (.lst vs)) (o : Od H v d) (t : tupD d = true) : LstT (upd H D (.lst (vs ++ [v]))) D (ds ++ [d]) := by
  obtain ⟨us, a, b, td⟩ := h
  obtain rfl : us = vs := by rw [a] at e; cases e; rfl
  have s : TupStay H (upd H D (.lst (us ++ [v]))) := ts_put a
  have t1 : tupDs [d] = true := by simp [tupDs, t]
  exact ⟨_, upd_same, (b.ts s td).app ((OdAll.cons o .nil).ts s t1), tupDs_app td t1⟩
theorem LstT.len {H : Hp} {D : Addr} {ds : List PyData} {vs : List V} (h : LstT H D ds) (e : H D = some (.lst vs)) : vs.length = ds.length := by
  obtain ⟨us, a, b, _⟩ := h
  rw [a] at e
  cases e
  exact b.len
/-- its things as a new tuple -/
theorem LstT.tup {H : Hp} {D R : Addr} {ds : List PyData} {vs : List V} (h : LstT H D ds) (e : H D = some (.lst vs)) (hR : H R = none) : Od (upd H R (.tup vs)) (.ref R) (.tuple ds) := by
  obtain ⟨us, a, b, td⟩ := h
  rw [a] at e
  cases e
  exact .tup upd_same (b.ts (ts_new hR) td)
theorem od_at {H : Hp} : ∀ {vs : List V} {ds : List PyData}, OdAll H vs ds → ∀ {i : Nat} {v : V}, vs[i]? = some v → ∃ d, ds[i]? = some d ∧ Od H v d
  | _, _, .nil, _, _, e => by cases e
  | _, _, .cons a b, 0, _, e => by
    cases e
    exact ⟨_, rfl, a⟩
  | _, _, .cons a b, i + 1, v, e => od_at b (i := i) (by simpa using e)
/-- a statement, then what follows, by what stands between them -/
theorem cut1 {A C : TS} {D : Ends} {σ : L2.St} {H : Hp} (R : L2.St → Hp → Prop) (ha : ∀ N : L2.St → Hp → Prop, (∀ σ' H', R σ' H' → N σ' H') → A { D with nx := N } σ H) (hc : ∀ σ' H', R σ' H' → C D σ' H') : tSeq A C D σ H := ha (C D) hc
/-- two statements, then what follows -/
theorem cut2 {A B C : TS} {D : Ends} {σ : L2.St} {H : Hp} (R : L2.St → Hp → Prop) (ha : ∀ N : L2.St → Hp → Prop, (∀ σ' H', R σ' H' → N σ' H') → tSeq A B { D with nx := N } σ H) (hc : ∀ σ' H', R σ' H' → C D σ' H') : tSeq A (tSeq B C) D σ H := ha (C D) hc
end Gr

set_option Elab.async false
set_option maxRecDepth 100000
set_option maxHeartbeats 4000000
set_option linter.all false
/-! Ours: a call with keywords that may raise; data for == ; what can be laid. -/
namespace Gr
open PySem PySem.Spec PyProof.Rows L2 GxR
def tCallNS (n m : Nat) (sp : Sp) (gV : List V → List V → List V) (E : L2.St → XK) (t tk : TA) : TE := fun σ H Q => t σ H fun vs H1 => tk σ H1 fun zs H2 => vs.length = n ∧ zs.length = m ∧ sp (gV vs zs) H2 Q (E σ)
section
variable {X : Cx} {CX : CXT} {k n : Nat} {f : Addr} {fd : FuncData} {ps ks : List Str} {sp : Sp} {E : L2.St → XK} {x : Str} {p pos : Pos} {e : Expr} {es : List Expr} {kws : List Keyword} {t tk : TA} {g : List Value → List Value → List Value} {gV : List V → List V → List V}
theorem run_fnNS {pins : List (Addr × Obj)} {σ : L2.St} {H : Hp} {s : Shared} {Q : VK} {us ws : List Value} {vs zs : List V} (F : FnOk X.prog X.w X.K X.mg X.base CX k f fd ps sp) (hr : Room k X.A) (hb : KBn X.K fd ps n ks g gV) (hx : PassesAt CX X σ (E σ))
    (I : Inv X pins σ H s) (r : Vals vs us) (rz : Vals zs ws) (l1 : vs.length = n) (l2 : zs.length = ks.length) (h : sp (gV vs zs) H Q (E σ)) : wpAny (model X.prog X.w) X.A (call (.ref f) us (ks.zip ws)) (EP X pins σ Q) X.xe s := by
  have r2 := hb.rel r rz
  refine wpAny_call (codeAny_mono (F.run X.A X.stack s H ⟨us, ks.zip ws⟩ (g us ws) (gV vs zs) Q (E σ) hr I.env0 (hb.to s us ws I.kIn (r.length.symm.trans l1) (rz.length.symm.trans l2)) r2 h) fun r s' hq => ?_)
  cases r with
  | error e => exact hx pins H s e s' I hq
  | ok fl =>
    cases fl with
    | ret u => exact I.after hq
    | next => exact False.elim hq
    | brk => exact False.elim hq
    | cont => exact False.elim hq
/-- f(e, .., k = v, ..) that may raise -/
theorem pe_callNS (F : FnOk X.prog X.w X.K X.mg X.base CX k f fd ps sp) (hr : Room k X.A) (hg : Gl X x) (hm : X.mg x = some (.ref f)) (hk : PySem.W.keepIn X.K (.ref f) = true) (hb : KBn X.K fd ps n ks g gV) (hx : ∀ σ, PassesAt CX X σ (E σ))
    (ha : PA X (e :: es) t) (hkw : PK X kws tk) (hall : (backToKw pos (keywordEach kws X.env)).all (·.1.isSome) = true := by rfl) (hks : (backToKw pos (keywordEach kws X.env)).filterMap (·.1) = ks := by rfl)
    (hdb : (x == ("__debug__" : Str)) = false := by decide) (he : starEach (e :: es) X.env = (false, eval e X.env) :: starEach es X.env := by rfl)
    (hpl : ((backTo pos (starEach (e :: es) X.env)).any (·.1) || (backToKw pos (keywordEach kws X.env)).any (·.1.isNone)) = false := by rfl) :
    PE X (.Call (.Name x p) (e :: es) kws pos) (tCallNS n ks.length sp gV E t tk) := by
  refine ⟨fun pins s σ H Q I h => ?_⟩
  refine wpAny_Call_Name_kw (ld_glob I hg hm ?_ hdb)
  refine PySem.W.callWith_KW (h₀ := X.base) I.ok.mod.kin hk hall (thn (ha.run pos pins s σ H _ I h) fun us s1 ⟨vs, H1, I1, r, q⟩ => ?_) hpl he
  refine thn (hkw.run pos pins s1 σ H1 _ I1 q) fun ws s2 ⟨zs, H2, I2, rz, l1, l2, q2⟩ => ⟨I2.kIn, ?_⟩
  rw [hks]
  exact run_fnNS F hr hb (hx σ) I2 r rz l1 l2 q2
end
mutual
theorem Od.dp {K : PySem.W.Frag} {H : Hp} : ∀ {v : V} {d : PyData}, Od H v d → tupD d = true → Dp K H v d
  | _, _, .non, _ => .non
  | _, _, .bl b, _ => .bl b
  | _, _, .int i, _ => .int i
  | _, _, .str x, _ => .str x
  | _, _, .lst e a, h => by simp [tupD] at h
  | _, _, .tup e a, h => .tup (SqT.of e) (OdAll.dp a (by simpa [tupD] using h))
  | _, _, .dic e a b, h => by simp [tupD] at h
theorem OdAll.dp {K : PySem.W.Frag} {H : Hp} : ∀ {vs : List V} {ds : List PyData}, OdAll H vs ds → tupDs ds = true → DpAll K H vs ds
  | _, _, .nil, _ => .nil
  | _, _, .cons a b, h => by
    simp only [tupDs, Bool.and_eq_true] at h
    exact .cons (Od.dp a h.1) (OdAll.dp b h.2)
end
/-- what == takes -/
def Shp (k : Nat) (d : PyData) : Prop := d.canLay0 = true ∧ d.depth ≤ k
theorem shp_int (i : Int) : Shp 1 (.int i) := ⟨by simp [PyData.canLay0], by simp [PyData.depth]⟩
theorem shp_bool (b : Bool) : Shp 1 (.bool b) := ⟨by simp [PyData.canLay0], by simp [PyData.depth]⟩
theorem shp_none : Shp 1 .none := ⟨by simp [PyData.canLay0], by simp [PyData.depth]⟩
theorem lay_all : ∀ {ds : List PyData} {k : Nat}, (∀ d ∈ ds, Shp k d) → PyData.canLayAll0 ds = true ∧ PyData.depthAll ds ≤ k + 1
  | [], k, _ => ⟨by simp [PyData.canLayAll0], by simp [PyData.depthAll]⟩
  | d :: ds, k, h => by
    have a := h d List.mem_cons_self
    have b := lay_all (ds := ds) fun x hx => h x (List.mem_cons_of_mem _ hx)
    refine ⟨by simp [PyData.canLayAll0, a.1, b.1], ?_⟩
    simp only [PyData.depthAll]
    have := a.2
    have := b.2
    omega
theorem shp_tup {ds : List PyData} {k : Nat} (h : ∀ d ∈ ds, Shp k d) : Shp (k + 2) (.tuple ds) := by
  have b := lay_all h
  refine ⟨by rw [PyData.canLay0]; exact b.1, ?_⟩
  simp only [PyData.depth]
  have := b.2
  omega
theorem shp_lst {ds : List PyData} {k : Nat} (h : ∀ d ∈ ds, Shp k d) : Shp (k + 2) (.list ds) := by
  have b := lay_all h
  refine ⟨by rw [PyData.canLay0]; exact b.1, ?_⟩
  simp only [PyData.depth]
  have := b.2
  omega
theorem Shp.ok {k : Nat} {d : PyData} (h : Shp k d) (a : k ≤ 64 := by decide) : SeqAt.shaped d = true := by
  unfold SeqAt.shaped
  rw [Bool.and_eq_true, decide_eq_true_eq]
  exact ⟨h.1, Nat.le_trans h.2 a⟩
theorem Shp.mono {k j : Nat} {d : PyData} (h : Shp k d) (a : k ≤ j) : Shp j d := ⟨h.1, Nat.le_trans h.2 a⟩
end Gr

set_option Elab.async false
set_option maxRecDepth 100000
set_option maxHeartbeats 4000000
set_option linter.all false
/-! Ours: quiet code: len and items of a list; loops of two fors. -/
namespace Gr
open PySem PySem.Spec PyProof.Rows L2 GxR
section
variable {P : Program} {w : World} {K : PySem.W.Frag} {mg : Str → Option Value} {base h0 : Heap} {k : Nat} {env : Env} {m : Str → Option Value}
theorem vd_lst {h : Heap} {y : Value} {ds : List PyData} (r : Vd h y (.list ds)) : ∃ t its, y = .ref t ∧ h.IsList t its ∧ VdAll h its.toList ds := by
  obtain ⟨as, r⟩ := r
  cases r with
  | list h1 h2 h3 h4 => exact ⟨_, _, rfl, ⟨_, h1, h2, _, h3⟩, vd_all h4⟩
theorem qe_lenL {e : Expr} {p1 pos : Pos} {ds : List PyData} (C : Qc K mg base env) (he : QE P w base h0 k env m e (.list ds)) (hg : env.scope.names.lookup ("len" : Str) = some .globalImplicit) (hm : mg "len" = none) (hl : ds.length ≤ sizeLine)
    (hs : starEach [e] env = (false, eval e env) :: starEach [] env := by rfl) (hpl : (backTo pos (starEach [] env)).any (·.1) = false := by rfl) :
    QE P w base h0 k env m (.Call (.Name "len" p1) [e] [] pos) (.int ds.length) := by
  intro B E z q
  refine wpAny_Call_Name_kw (q_blt C q hg hm PySem.boot_len (PyProof.Rows.callWith_builtin1 ?_ hs hpl))
  rw [hs]
  show wpAny _ _ (spliced ((false, eval e env) :: backTo pos (starEach [] env))) _ _ z
  refine Calls.spliced_cons (thn (he B E z q) fun u z1 ⟨r1, k1⟩ => Calls.spliced_nil ?_)
  obtain ⟨t, its, rfl, ht, ha⟩ := vd_lst r1
  have hn := line63
  have hz : its.size = ds.length := by
    have := ha.len
    rw [← this, Array.length_toList]
  refine len_list ht (by rw [hz]; omega) ⟨?_, kt k1 (keeps_tok _ _)⟩
  rw [hz]
  exact ⟨_, .int _ _⟩
def items_at (i : Int) (its : Array Value) : Option Value := if 0 ≤ i then its[i.toNat]? else its[(i + its.size).toNat]?
theorem qe_ixAL {e sl : Expr} {i : Int} {pos : Pos} {ds : List PyData} {d : PyData} (he : QE P w base h0 k env m e (.list ds)) (hi : QE P w base h0 k env m sl (.int i)) (ha : atI ds i = some d) (hl : ds.length ≤ sizeLine) (hs : ∀ o v, subscripted sl false o v = operate [o, v] (getItem o v) := by intro _ _; with_unfolding_all rfl) :
    QE P w base h0 k env m (.Subscript e sl pos) d := by
  intro B E z q
  refine Subscript_ (thn (he B E z q) fun u z1 ⟨r1, k1⟩ => thn (hi B E z1 (q.next k1)) fun x z2 ⟨r2, k2⟩ => ?_)
  obtain ⟨t, its, rfl, ht, hall⟩ := vd_lst (r1.up (kk k2))
  obtain ⟨t', rfl⟩ := vd_int r2
  have hn := line63
  have hz : its.size = ds.length := by
    have := hall.len
    rw [← this, Array.length_toList]
  obtain ⟨j, e1, e2, e3, e4, e5⟩ := atI_get ha
  obtain ⟨v, hv, rv⟩ := hall.get e2
  have hv' : its[j]? = some v := by rw [← Array.getElem?_toList]; exact hv
  have hx : items_at i its = some v := by
    unfold items_at
    by_cases h : 0 ≤ i
    · rw [if_pos h]
      have ej : j = i.toNat := by
        unfold seqIndex? at e1
        simp only [show ¬ i < 0 by omega, if_false] at e1
        split at e1 <;> simp_all
      rw [← ej]; exact hv'
    · rw [if_neg h]
      have ej : j = (i + ds.length).toNat := by
        unfold seqIndex? at e1
        simp only [show i < 0 by omega, if_true] at e1
        split at e1 <;> simp_all
      rw [hz, ← ej]; exact hv'
  unfold items_at at hx
  by_cases h : 0 ≤ i
  · rw [if_pos h] at hx
    exact subscriptTail_builtinR (x := v) ht.typeIs slot_list_getitem.lookup (wpAny_getItem_list (Q := fun r s' => r = v ∧ (Vd s'.heap r d ∧ Keeps z s')) ht h (by omega) hx ⟨rfl, rv, kt k1 k2⟩) (hs _ _)
  · rw [if_neg h] at hx
    exact subscriptTail_builtinR (x := v) ht.typeIs slot_list_getitem.lookup (wpAny_getItem_list_neg (Q := fun r s' => r = v ∧ (Vd s'.heap r d ∧ Keeps z s')) ht (by omega) (by rw [hz]; omega) (by omega) hx ⟨rfl, rv, kt k1 k2⟩) (hs _ _)
end
/-- a loop whose turn is told: for comprehensions of two fors -/
theorem walk_loop {J : It} {n : Nat} {G : Hp → Prop} {Y : Nat → Hp → V → Hp → Prop} (w : Walk J n G Y) {STEP : V → Hp → (Hp → Prop) → Prop} {Nx : Hp → Prop} {H0 : Hp} (Pv : Nat → Hp → Prop) (h0 : Pv 0 H0) (hG : ∀ i H, i ≤ n → Pv i H → G H)
    (hs : ∀ i x H H', i < n → Pv i H → Y i H x H' → STEP x H' (Pv (i + 1))) (hd : ∀ H, Pv n H → Nx H) :
    ∃ W : Nat → Nat → Hp → Prop, (∃ m, W 0 m H0) ∧ ∀ i m H, W i m H → (J.stop i H ∧ Nx H) ∨ (J.go i H ∧ ∃ Nx1 : Hp → Prop, (∀ H', Nx1 H' → ∃ m', m' < m ∧ W (i + 1) m' H') ∧ ∀ x H', J.yld i H x H' → STEP x H' Nx1) := by
  refine ⟨fun i m H => m = n - i ∧ i ≤ n ∧ Pv i H, ⟨n, by simp, Nat.zero_le _, h0⟩, ?_⟩
  rintro i m H ⟨rfl, hi, p⟩
  have q := hG i H hi p
  by_cases hlt : i < n
  · exact .inr ⟨w.goes i H hlt q, Pv (i + 1), fun H' p' => ⟨n - (i + 1), by omega, rfl, hlt, p'⟩, fun x H' y => hs i x H H' hlt p (w.yields i H x H' hlt q y)⟩
  · have e : i = n := by omega
    subst e
    exact .inl ⟨w.stops H q, hd H p⟩
end Gr

set_option Elab.async false
set_option maxRecDepth 100000
set_option maxHeartbeats 4000000
set_option linter.all false
/-! Ours: sorted(range(n), key=lambda i: e), e quiet and with captured names; quiet tuples, texts. -/
namespace Gr
open PySem PySem.Spec PyProof.Rows L2 GxR
section
variable {P : Program} {w : World} {K : PySem.W.Frag} {mg : Str → Option Value} {base h0 : Heap} {k : Nat} {env : Env} {m : Str → Option Value}
theorem vd_str {h : Heap} {y : Value} {x : Str} (r : Vd h y (.str x)) : ∃ t, y = .str x t := by
  obtain ⟨as, r⟩ := r
  cases r
  exact ⟨_, rfl⟩
theorem all_vd {h : Heap} : ∀ {vs : List Value} {ds : List PyData}, VdAll h vs ds → ∃ as, ReadsAll h vs ds as
  | _, _, .nil => ⟨_, .nil⟩
  | _, _, .cons ⟨_, a⟩ b => let ⟨_, c⟩ := all_vd b; ⟨_, .cons a c⟩
/-- (e, ..) -/
theorem qe_tup {es : List Expr} {ds : List PyData} {x1} {pos : Pos} (h : QEs P w base h0 k env m es ds) (hl : ds.length ≤ sizeLine) : QE P w base h0 k env m (.Tuple es x1 pos) (.tuple ds) := by
  intro B E z q
  refine wpAny_Tuple_spliced (thn (h B E z pos q) fun us z1 ⟨r1, k1⟩ => ⟨by rw [r1.len]; exact hl, ?_⟩)
  have up : ∀ b o, z1.heap.get? b = some o → (z1.heap.push { cls := .type "tuple", data := .seq us.toArray }).get? b = some o := fun b o e => Heap.get?_push_of_some _ e
  obtain ⟨as, r⟩ := all_vd (r1.up up)
  exact ⟨⟨as, .tuple (Heap.get?_push_size _ rfl) rfl rfl r⟩, kt k1 ⟨_, z1.toks, rfl, up⟩⟩
theorem qe_str {x : Str} {j : Nat} {p : Pos} : QE P w base h0 k env m (.Constant (.str x) j p) (.str x) := fun B E z q =>
  Calls.Constant_str ⟨⟨_, .str _ _⟩, keeps_tok _ _⟩
/-- len(e), e a text -/
theorem qe_lenS {e : Expr} {p1 pos : Pos} {x : Str} (C : Qc K mg base env) (he : QE P w base h0 k env m e (.str x)) (hg : env.scope.names.lookup ("len" : Str) = some .globalImplicit) (hm : mg "len" = none) (hl : x.length ≤ sizeLine)
    (hs : starEach [e] env = (false, eval e env) :: starEach [] env := by rfl) (hpl : (backTo pos (starEach [] env)).any (·.1) = false := by rfl) :
    QE P w base h0 k env m (.Call (.Name "len" p1) [e] [] pos) (.int x.length) := by
  intro B E z q
  refine wpAny_Call_Name_kw (q_blt C q hg hm PySem.boot_len (PyProof.Rows.callWith_builtin1 ?_ hs hpl))
  rw [hs]
  show wpAny _ _ (spliced ((false, eval e env) :: backTo pos (starEach [] env))) _ _ z
  refine Calls.spliced_cons (thn (he B E z q) fun u z1 ⟨r1, k1⟩ => Calls.spliced_nil ?_)
  obtain ⟨t, rfl⟩ := vd_str r1
  have hn := line63
  exact len_str (by omega) ⟨⟨_, .int _ _⟩, kt k1 (keeps_tok _ _)⟩
/-- a == b of texts -/
theorem qe_eqS {a b : Expr} {x y : Str} {pos : Pos} (ha : QE P w base h0 k env m a (.str x)) (hb : QE P w base h0 k env m b (.str y)) (hm : behindInMarks .Eq b = false := by with_unfolding_all rfl) :
    QE P w base h0 k env m (.Compare a [.Eq] [b] pos) (.bool (x == y)) := by
  intro B E z q
  refine wpAny_Compare1 (thn (ha B E z q) fun u z1 ⟨r1, k1⟩ => thn (hb B E z1 (q.next k1)) fun v z2 ⟨r2, k2⟩ => ?_) hm
  obtain ⟨t, rfl⟩ := vd_str r1
  obtain ⟨t', rfl⟩ := vd_str r2
  exact PyProof.Rows.eq_str ⟨⟨_, .bool _⟩, kt k1 k2⟩
end
/-! ### sorted(range, key=f) -/
section
open PySem.W
variable {prog : Program} {w : World} {A : Around} {E : Value → Shared → Prop} {s : Shared} {r : Addr} {b c : Int} {t u v : Tok} {n : Nat}
theorem sorted_key_range {fa : Addr} {Q : Value → Shared → Prop} (k : Nat → PyData) (hh : A.handled = none) (hr : IsRange s.heap r 0 (n : Nat) 1 t u v) (hlen : n ≤ 1000)
    (hal : AllAlike ((List.range n).map k)) (hk : Sortable ((List.range n).map k)) (hu : ∀ x, x < n → A.units + 2 + (k x).depth < cLine)
    (turn : ∀ (x : Nat) (tx : Tok), x < n → ∀ (h : Heap) (tk : Nat), (∀ b o, s.heap.get? b = some o → h.get? b = some o) →
      wpAny (model prog w) A.in1.in1 (call (.ref fa) [.int (x : Nat) tx]) (KeyPure (k x) { s with heap := h, toks := tk }) (fun _ _ => False) { s with heap := h, toks := tk })
    (h : ∀ (out : List Value) (c : Nat) (h1 h' : Heap) (tk : Nat), (∀ b o, s.heap.get? b = some o → h1.get? b = some o) → (∀ b o, h1.get? b = some o → h'.get? b = some o) → h'.get? h1.objs.size = some (seqObj "list" (List.toArray out) c) →
      EachIs (fun v i => ∃ t, v = .int (i : Nat) t) out ((List.range n).mergeSort (dataLe false k)) → Q (.ref h1.objs.size) { s with heap := h', toks := tk }) :
    wpAny (model prog w) A (call (.builtin "sorted") [.ref r] [(Str.ofString "key", .ref fa)]) Q E s := by
  refine call_function_entry_kw kind_sorted plain_sorted entry_sorted (ksk_s1 _ _) ?_
  unfold Builtin.«sorted»
  refine wpAny_bind (m := checkCount "sorted" 1 1 _) (wpAny_pure ?_)
  have hsm : Builtin.Range.small 0 (n : Nat) 1 = true := small_one (by decide) (by decide) (by omega) (by omega)
  have hrs : Builtin.Range.rangeSize 0 (n : Nat) 1 = (((n : Int) - 0).toNat : Nat) := rangeSize_nat 0 (n : Nat)
  have e0 : ((n : Int) - 0).toNat = n := by omega
  rw [e0] at hrs
  have hz : n ≤ sizeLine := Nat.le_trans hlen (by decide)
  refine wpAny_bind (collect_range (A := A.in1) (n := n) hh hr hsm hrs (by omega) fun h1 tk1 acc k1 hi => ?_)
  have hacc : EachIs (fun v i => ∃ t, v = .int (i : Nat) t) acc.toList (List.range n) := by
    have key : ∀ (l : List Value) (j : Nat), (∀ i v, l[i]? = some v → ∃ t, v = Value.int ((j + i : Nat) : Int) t) → EachIs (fun v (i : Nat) => ∃ t, v = Value.int (i : Int) t) l (List.range' j l.length) := fun l => by
      induction l with
      | nil => intro j _; exact .nil
      | cons a l ih =>
        intro j h
        rw [List.length_cons, List.range'_succ]
        refine .cons (h 0 a rfl) (ih (j + 1) fun i v hv => ?_)
        obtain ⟨t, e⟩ := h (i + 1) v hv
        exact ⟨t, e.trans (congrArg (fun z => Value.int z t) (by omega))⟩
    have := key acc.toList 0 fun i v hv => by
      obtain ⟨t, e⟩ := hi.2 i v (by rw [← Array.getElem?_toList]; exact hv)
      exact ⟨t, e.trans (congrArg (fun z => Value.int z t) (by omega))⟩
    rw [Array.length_toList, hi.1] at this
    rw [List.range_eq_range']
    exact this
  have hla : acc.toList.length ≤ sizeLine := by rw [Array.length_toList, hi.1]; exact hz
  refine wpAny_bind (wpAny_newList (?_ : wpAny _ _ _ _ _ _) hla)
  have hat : (h1.push (seqObj "list" acc.toList.toArray 0)).get? h1.objs.size = some (seqObj "list" acc.toList.toArray 0) := Heap.get?_push_size _ rfl
  have old : ∀ b o, s.heap.get? b = some o → b ≠ h1.objs.size ∧ (h1.push (seqObj "list" acc.toList.toArray 0)).get? b = some o := fun b o q => ⟨Nat.ne_of_lt (Heap.lt_size (k1 _ _ q)), Heap.get?_push_of_some _ (k1 _ _ q)⟩
  show wpAny _ _ _ _ _ { s with heap := h1.push (seqObj "list" acc.toList.toArray 0), toks := tk1 }
  refine wpAny_bind (wpAny_holding (wpAny_call_entry_kw slot_list_sort ⟨_, hat, rfl⟩ entry_list_sort ?body (ksk_l1 _ _)))
  case body =>
    show wpAny _ _ (Builtin.«list.sort» ⟨[.ref h1.objs.size], [(Str.ofString "key", .ref fa)]⟩) _ _ _
    rw [ksk_t1]
    refine keyH_tree (kz := (List.range n).map k) (s := { s with heap := h1.push (seqObj "list" acc.toList.toArray 0), toks := tk1 }) hat (by rw [List.length_map, List.length_range, Array.length_toList, hi.1]) hla hal hk (fun d hd => ?_)
      (keyH_turns (s := { s with heap := h1.push (seqObj "list" acc.toList.toArray 0), toks := tk1 }) hacc fun v x hR hx h tk kp => ?_) fun h' tk out c kp hD ko => ?_
    · obtain ⟨x, hx, rfl⟩ := List.mem_map.mp hd
      exact hu x (List.mem_range.mp hx)
    · obtain ⟨t, rfl⟩ := hR
      exact turn x t (List.mem_range.mp hx) h tk fun b o q => kp b o (old b o q).1 (old b o q).2
    · refine ⟨.none, rfl, wpAny_pure ⟨_, rfl, ?_⟩⟩
      exact h out c h1 h' tk k1 (fun b o q => kp b o (Nat.ne_of_lt (Heap.lt_size q)) (Heap.get?_push_of_some _ q)) hD (keyedOut_each k ko hacc)
end
end Gr

set_option Elab.async false
set_option maxRecDepth 100000
set_option maxHeartbeats 4000000
set_option linter.all false
/-! Ours: any(elt for a, b in e) with captured names; quiet code: a + b, a > b, a <= b. -/
namespace Gr
open PySem PySem.Spec PyProof.Rows L2 GxR
theorem pair_any {f : PyData × PyData → Bool} (l : List (PyData × PyData)) : (l.map tw).any (pairB f) = l.any f := by
  rw [List.any_map]
  rfl
section
variable {X : Cx} {pins : List (Addr × Obj)} {σ : L2.St} {H : Hp} {s : Shared}
def tAnyTF (K : PySem.W.Frag) (P : Addr) (is : List Nat) (dom : List PyData → PyData × PyData → Prop) (pb : List PyData → PyData × PyData → Bool) (te : TE) : TE := fun σ H Q => te σ H fun v H1 => ∃ (pr : List (PyData × PyData)) (fd : List PyData), Dq K H1 v (.tuple (pr.map tw)) ∧ CapD K H1 σ is fd ∧ (∀ q ∈ pr, dom fd q) ∧ TabG H1 P ∧ ∀ H2, Tabbed P H1 H2 → Q (.bl (pr.any (pb fd))) H2
/-- any(elt for a, b in e), e a tuple of pairs -/
theorem pe_anyTF {c P : Addr} {elt iter : Expr} {xa xb : Str} {qa qb qt p pos gpos : Pos} {kt : Nat} {scope : Scope} {xs : List Str} {is : List Nat} {dom : List PyData → PyData × PyData → Prop} {pb : List PyData → PyData × PyData → Bool} {te : TE} {k : Nat}
    (hr : Room (k + 1) X.A) (hg : Gl X "any") (hm : X.mg "any" = none) (TB : TabB X.base X.mg c P) (hcode : X.env.code = .ref c) (S : GenTF X scope xa xb xs is) (hi : PE X iter te) (hel : EltTF X k scope xa xb xs elt dom pb)
    (hs : ∀ v, genFold iter X.env v = pure v)
    (he : starEach [.GeneratorExp elt [⟨.Tuple [.Name xa qa, .Name xb qb] kt qt, iter, [], 0⟩] scope gpos] X.env = (false, eval (.GeneratorExp elt [⟨.Tuple [.Name xa qa, .Name xb qb] kt qt, iter, [], 0⟩] scope gpos) X.env) :: starEach [] X.env := by rfl) :
    PE X (.Call (.Name "any" p) [.GeneratorExp elt [⟨.Tuple [.Name xa qa, .Name xb qb] kt qt, iter, [], 0⟩] scope gpos] [] pos) (tAnyTF X.K P is dom pb te) := by
  refine ⟨fun pins s σ H Q I h => wpAny_Call_Name_kw (ld_blt I hg hm boot_any (PyProof.Rows.callWith_builtin1 ?_ he (by rfl)))⟩
  rw [he]
  show wpAny _ _ (spliced ((false, eval (.GeneratorExp elt [⟨.Tuple [.Name xa qa, .Name xb qb] kt qt, iter, [], 0⟩] scope gpos) X.env) :: backTo pos (starEach [] X.env))) _ _ s
  refine Calls.spliced_cons (genTF (R := fun pr fd H1 => ∀ H2, Tabbed P H1 H2 → Q (.bl (pr.any (pb fd))) H2) hr TB hcode S hi hel hs I h ?_)
  rintro pr fd H1 g z hR ⟨fp, wr, G, F, St, W, hst, htr, hI⟩
  refine Calls.spliced_nil (call_any_walkS (W.self 0 _ _ _ hst ⟨g, fp, wr, G, _, F, St, _, rfl, W, hst, htr, fun s' mv => ?_⟩))
  obtain ⟨H2, hT, J⟩ := hI s' mv
  rw [trD_any (pairB (pb fd)) (pr.map tw), pair_any]
  exact ⟨.bl _, H2, J, rfl, hR H2 hT⟩
end
section
variable {P : Program} {w : World} {K : PySem.W.Frag} {mg : Str → Option Value} {base h0 : Heap} {k : Nat} {env : Env} {m : Str → Option Value}
theorem qe_add {a b : Expr} {i j : Int} {pos : Pos} (ha : QE P w base h0 k env m a (.int i)) (hb : QE P w base h0 k env m b (.int j)) : QE P w base h0 k env m (.BinOp a .Add b pos) (.int (i + j)) := by
  intro B E z q
  refine wpAny_BinOp (thn (ha B E z q) fun u z1 ⟨r1, k1⟩ => thn (hb B E z1 (q.next k1)) fun v z2 ⟨r2, k2⟩ => ?_)
  obtain ⟨t, rfl⟩ := vd_int r1
  obtain ⟨t', rfl⟩ := vd_int r2
  exact add_int ⟨⟨_, .int _ _⟩, kt k1 (kt k2 (keeps_tok _ _))⟩
theorem qe_gt {a b : Expr} {i j : Int} {pos : Pos} (ha : QE P w base h0 k env m a (.int i)) (hb : QE P w base h0 k env m b (.int j)) (hm : behindInMarks .Gt b = false := by with_unfolding_all rfl) : QE P w base h0 k env m (.Compare a [.Gt] [b] pos) (.bool (decide (j < i))) :=
  qe_cmp (c := fun i j => decide (j < i)) ha hb (fun q => gt_int q) hm
end
end Gr

set_option Elab.async false
set_option maxRecDepth 100000
set_option maxHeartbeats 4000000
set_option linter.all false
/-! Ours: a lambda of one parameter as the key of sorted(range(n), key=..). -/
namespace Gr
open PySem PySem.Spec PyProof.Rows L2 GxR
/-- the lambda at f -/
def LamO (f : Addr) (q : Str) (params : Arguments) (body : Expr) (scope : Scope) (cl : List (Str × Addr)) (c' : Addr) : HO := .ext fun h => ∃ pm ctv : Value, h.get? f = some (PySem.W.kla_obj "<lambda>" q params body scope cl pm c' ctv)
structure LamF (X : Cx) (scope : Scope) (y : Str) (xs : List Str) (is : List Nat) : Prop where
  kind : scope.kind = .function
  co : scope.isCoroutine = false
  gen : scope.isGenerator = false
  cell : ∀ z ∈ scope.names, z.2 ≠ .cell
  loc : scope.names.lookup y = some .local
  free : ∀ z ∈ scope.names, z.2 = .free → ∃ c, X.env.cells.lookup z.1 = some c
  cap : CapN X scope xs is
section
variable {X : Cx} {pins : List (Addr × Obj)} {σ : L2.St} {H : Hp} {s : Shared}
/-- a call of the lambda, from any heap that has grown out of this one -/
theorem lam_turn {k : Nat} {scope : Scope} {y q : Str} {xs : List Str} {is : List Nat} {params : Arguments} {body : Expr} {f c' : Addr} {pm ctv v : Value} {fd : List PyData} {d dv : PyData} {B : Around} (I : Inv X pins σ H s) (S : LamF X scope y xs is)
    (hf : s.heap.get? f = some (PySem.W.kla_obj "<lambda>" q params body scope (cloFrom X.env.cells scope.names []) pm c' ctv)) (hco : s.heap.CodeRec (.ref c') q)
    (hbind : bindArgs (PySem.W.kla_fn "<lambda>" q params body scope (cloFrom X.env.cells scope.names []) pm (.ref c') ctv) ⟨[v], []⟩ = pure [(y, v)]) (hr : Room (k + 1) B) (hcap : CapD X.K H σ is fd) (hv : Vd s.heap v dv)
    (hel : ∀ (en : Env) (m : Str → Option Value) (h0 : Heap), en.scope = scope → Qc X.K X.mg X.base en → m y = some v → Vd h0 v dv → FrD h0 en.cells xs fd → QE X.prog X.w X.base h0 k en m body d)
    (flat : ∀ (h : Heap) (u : Value), Vd h u d → Reads h u d []) (h : Heap) (tk : Tok) (kp : ∀ b o, s.heap.get? b = some o → h.get? b = some o) :
    wpAny (model X.prog X.w) B (call (.ref f) [v]) (PySem.W.KeyPure d { s with heap := h, toks := tk }) (fun _ _ => False) { s with heap := h, toks := tk } := by
  have hfr : FrD s.heap (cloFrom X.env.cells scope.names []) xs fd := cap_fr I S.cap hcap
  refine wpAny_call (codeAny_mono (PySem.W.kla_callFunE (R := fun r z' => ∃ u, r = .ok (.ret u) ∧ Vd z'.heap u d ∧ Keeps { s with heap := h, toks := tk } z') hr.depth (kp _ _ hf) rfl S.co S.gen rfl (hco.keeps kp) ?_) fun r z' hz => ?_)
  · rw [hbind]
    refine wpAny_pure (wpAny_newFunctionEnv S.cell (fun z hz => by rw [List.mem_singleton.mp hz]; exact S.loc) (fun h1 hns hsb => ⟨?_, ?_⟩) S.kind)
    · exact (I.nolimit.keeps kp).fresh _ hsb
    · have k1 : ∀ b o, h.get? b = some o → h1.get? b = some o := fun b o e => hsb.extBut b o (Nat.ne_of_lt (Heap.lt_size e)) (Heap.get?_push_of_some _ e)
      refine PySem.W.kla_codeExpr (thn (hel _ (fun z => [(y, v)].reverse.lookup z) s.heap rfl ⟨I.mod, S.kind, rfl, rfl⟩ (by simp) hv hfr (B.deeper _) _ _ ⟨hr.deeper _, fun b o e => k1 _ _ (kp _ _ (I.bk b o e)), fun b o e => k1 _ _ (kp _ _ e), hns⟩) fun u z2 ⟨r2, k2⟩ => ⟨u, rfl, r2, ?_⟩)
      exact kt ⟨h1, _, rfl, k1⟩ k2
  · obtain ⟨u, rfl, ru, h', tk', rfl, kk'⟩ := hz
    exact ⟨h', tk', rfl, kk', flat _ _ ru⟩
end
theorem cr_range1 {X : Cx} : CallR X (.type "range") (fun vs H Q => ∃ j, vs = [V.int j] ∧ ∀ p, H p = none → Q (.ref p) (upd H p (.rng 0 j))) := by
  intro pins s σ H vs us Q I r h
  obtain ⟨j, rfl, q⟩ := h
  obtain ⟨u1, rfl, rj⟩ := vals1 r
  obtain ⟨u, rfl⟩ := rj
  refine call_range_1 ⟨.ref s.heap.objs.size, upd H s.heap.objs.size (.rng 0 j), I.laid (t' := s.toks + 2) (fun b o e => Heap.get?_push_of_some _ e) (Nat.le_refl _) ?_, rfl, q _ (I.hok.fresh (Nat.le_refl _))⟩
  exact ⟨_, _, _, Heap.get?_push_size _ rfl⟩
section
variable {X : Cx} {pins : List (Addr × Obj)} {σ : L2.St} {H : Hp} {s : Shared}
theorem lamO_ne {f : Addr} {q : Str} {params : Arguments} {body : Expr} {scope : Scope} {cl : List (Str × Addr)} {c' : Addr} (ps : Array Value) : LamO f q params body scope cl c' ≠ .tbl ps := fun z => by
  unfold LamO at z
  cases z
theorem lamO_ok {P : Program} {w : World} {H : Hp} {h : Heap} {f : Addr} {q : Str} {params : Arguments} {body : Expr} {scope : Scope} {cl : List (Str × Addr)} {c' : Addr} {pm ctv : Value} (e : h.get? f = some (PySem.W.kla_obj "<lambda>" q params body scope cl pm c' ctv)) :
    ObjOk P w H h f (LamO f q params body scope cl c') := ⟨⟨pm, ctv, e⟩, ⟨_, e⟩, fun h1 h2 ⟨pm, ctv, e⟩ k => ⟨pm, ctv, k _ e⟩⟩
/-- all but the table at P stays -/
def ExtP (P : Addr) (H H' : Hp) : Prop := ∀ b o, b ≠ P → H b = some o → H' b = some o
theorem ExtP.extN {P : Addr} {q : Str} {H H' : Hp} (t : LamX.TabS H P q) (e : ExtP P H H') : LamX.ExtN H H' := fun b o x n => e b o (fun z => by
  obtain ⟨ps, hp, _⟩ := t
  rw [z, hp] at x
  exact n ps (Option.some.inj x).symm) x
theorem lam_make3 {c P : Addr} {params : Arguments} {body : Expr} {scope : Scope} {pos : Pos} {E : Value → Shared → Prop} {Q : Value → Shared → Prop} (I : Inv X pins σ H s) (TB : LamX.TabB X.base X.mg c P) (hcode : X.env.code = .ref c)
    (hT : LamX.TabS H P (X.env.qual ++ "<lambda>")) (hdef : defaultsOf params X.env = ([], [])) (hfree : ∀ y ∈ scope.names, y.2 = .free → ∃ c, X.env.cells.lookup y.1 = some c)
    (h : ∀ (f c' : Addr) (H1 : Hp) (s' : Shared), Inv X pins σ (upd H1 f (LamO f (X.env.qual ++ "<lambda>") params body scope (cloFrom X.env.cells scope.names []) c')) s' → ExtP P H H1 → LamX.TabS H1 P (X.env.qual ++ "<lambda>") →
      H1 f = none → H1 c' = some (LamX.CodeO c' (X.env.qual ++ "<lambda>")) → Q (.ref f) s') :
    wpAny (model X.prog X.w) X.A (eval (.Lambda params body scope pos) X.env) Q E s := by
  obtain ⟨ps, hP, ht, ha⟩ := hT
  refine PySem.W.kla_eval hdef ?_
  have bP : s.heap.BuiltinsAt X.mg P := TB.bm.keeps I.bk
  have hP' : s.heap.get? P = some { cls := .none, data := .fields ps } := I.hok P _ hP
  cases hc : codeAmong pos ps.toList with
  | none =>
    refine PySem.W.kla_makeFunction (mg := X.mg) (c := c) (P := P) (ps := ps) (closure_ok hfree) I.ok.glob (I.mod.glob.keeps I.bk) hcode (TB.code.keeps I.bk) hP' ht hc TB.gP bP fun c' ctv h' tk hx hge hlt hrec htb => ?_
    obtain ⟨c2, oc, vs, t, e2, hoc, hd, hv⟩ := hrec
    cases e2
    have hsz : s.heap.objs.size ≤ h'.objs.size := Nat.le_trans hge (Nat.le_of_lt hlt)
    have nC : H c' = none := I.hok.fresh hge
    have I1 := LamX.inv_table (t' := tk) (more := #[rawInt pos.line, rawInt pos.col, .ref c']) (h' := h') I hP
      (fun b o hb e => hx b o hb e) htb hge ⟨oc, vs, t, hoc, hd, hv⟩
    have hE : LamX.ExtN H (upd (upd H P (.tbl (ps ++ #[rawInt pos.line, rawInt pos.col, .ref c']))) c' (LamX.CodeO c' (X.env.qual ++ "<lambda>"))) := fun b o e n => by
      rw [upd_ne (ne_of_none e nC), upd_ne (fun z => n ps (Option.some.inj (e.symm.trans (by rw [z]; exact hP))))]
      exact e
    have eL : (ps ++ #[rawInt pos.line, rawInt pos.col, .ref c']).toList = ps.toList ++ [rawInt pos.line, rawInt pos.col, .ref c'] := by simp
    have hEP : ExtP P H (upd (upd H P (.tbl (ps ++ #[rawInt pos.line, rawInt pos.col, .ref c']))) c' (LamX.CodeO c' (X.env.qual ++ "<lambda>"))) := fun b o n e => by
      rw [upd_ne (ne_of_none e nC), upd_ne n]
      exact e
    refine h h'.objs.size c' _ _ (I1.laid (t' := tk) (h' := h'.push (PySem.W.kla_obj "<lambda>" (X.env.qual ++ "<lambda>") params body scope (cloFrom X.env.cells scope.names []) ((X.mg "__name__").getD .none) c' ctv)) (fun b o e => Heap.get?_push_of_some _ e) (Nat.le_refl _) (lamO_ok (Heap.get?_push_size _ rfl))) hEP ?_ (I1.hok.fresh (Nat.le_refl _)) upd_same
    refine ⟨_, by rw [upd_ne (ne_of_none hP nC), upd_same], by rw [eL]; exact PySem.TriplesOk_snoc _ _ _ _ ht, fun p' cv hcv => ?_⟩
    rw [eL] at hcv
    rcases LamX.among_app _ ht hcv with z | z
    · obtain ⟨c0, e1, e2⟩ := ha p' cv z
      exact ⟨c0, e1, hE _ _ e2 LamX.codeO_ne⟩
    · exact ⟨c', z, upd_same⟩
  | some cv =>
    obtain ⟨c', e, hco⟩ := ha pos cv hc
    subst e
    refine PySem.W.kla_makeFunctionHit (mg := X.mg) (c := c) (P := P) (ps := ps) (closure_ok hfree) I.ok.glob (I.mod.glob.keeps I.bk) hcode (TB.code.keeps I.bk) hP' ht hc bP fun ctv h' tk hx hsz => ?_
    have I1 : Inv X pins σ H { s with heap := h', toks := tk } := I.kept hx
    exact h h'.objs.size c' H _ (I1.laid (t' := tk) (h' := h'.push (PySem.W.kla_obj "<lambda>" (X.env.qual ++ "<lambda>") params body scope (cloFrom X.env.cells scope.names []) ((X.mg "__name__").getD .none) c' ctv)) (fun b o e => Heap.get?_push_of_some _ e) (Nat.le_refl _) (lamO_ok (Heap.get?_push_size _ rfl))) (fun _ _ _ e => e) ⟨ps, hP, ht, ha⟩ (I1.hok.fresh (Nat.le_refl _)) hco
end
def tLamV (P : Addr) (q : Str) (mk : Addr → Addr → HO) : TE := fun σ H Q => LamX.TabS H P q ∧ ∀ (f c' : Addr) (H1 : Hp), ExtP P H H1 → LamX.TabS H1 P q → H1 f = none → H1 c' = some (LamX.CodeO c' q) → Q (.ref f) (upd H1 f (mk f c'))
/-- a lambda as a value -/
theorem pe_lamV {X : Cx} {c P : Addr} {params : Arguments} {body : Expr} {scope : Scope} {pos : Pos} (TB : LamX.TabB X.base X.mg c P) (hcode : X.env.code = .ref c) (hdef : defaultsOf params X.env = ([], [])) (hfree : ∀ y ∈ scope.names, y.2 = .free → ∃ c, X.env.cells.lookup y.1 = some c) :
    PE X (.Lambda params body scope pos) (tLamV P (X.env.qual ++ "<lambda>") fun f c' => LamO f (X.env.qual ++ "<lambda>") params body scope (cloFrom X.env.cells scope.names []) c') :=
  ⟨fun pins s σ H Q I h => lam_make3 I TB hcode h.1 hdef hfree fun f c' H1 s' I1 e1 t1 n1 k1 => ⟨.ref f, _, I1, rfl, h.2 f c' H1 e1 t1 n1 k1⟩⟩
end Gr

set_option Elab.async false
set_option maxRecDepth 100000
set_option maxHeartbeats 4000000
set_option linter.all false
/-! Ours: sorted(range(n), key=lambda i: e): the rule. -/
namespace Gr
open PySem PySem.Spec PyProof.Rows L2 GxR
def ordL (key : Nat → PyData) (n : Nat) : List Nat := (List.range n).mergeSort (PySem.W.dataLe false key)
def tSortLam (K : PySem.W.Frag) (is : List Nat) (dom : List PyData → Nat → Prop) (key : List PyData → Nat → PyData) (mk : Addr → Addr → HO) (q : Str) (ta tk : TA) : TE := fun σ H Q => ta σ H fun vs H1 => tk σ H1 fun zs H2 => ∃ (r : Addr) (n : Nat) (f c' : Addr) (fd : List PyData),
  vs = [.ref r] ∧ H2 r = some (.rng 0 (n : Nat)) ∧ n ≤ 1000 ∧ zs = [.ref f] ∧ H2 f = some (mk f c') ∧ H2 c' = some (LamX.CodeO c' q) ∧ CapD K H2 σ is fd ∧ (∀ i, i < n → dom fd i) ∧
  ∀ (D : Addr) (H3 : Hp), H2 D = none → H3 = upd H2 D (.lst ((ordL (key fd) n).map fun i => V.int (i : Nat))) → Q (.ref D) H3
theorem vals_each : ∀ {out : List Value} {l : List Nat}, PySem.W.EachIs (fun v (i : Nat) => ∃ t, v = Value.int (i : Int) t) out l → Vals (l.map fun i => V.int (i : Nat)) out
  | _, _, .nil => .nil
  | _, _, .cons ⟨t, e⟩ r => .cons ⟨t, e⟩ (vals_each r)
/-- sorted(e, key=lambda y: body), e a range from 0 -/
theorem pe_sortLam {X : Cx} {k : Nat} {scope : Scope} {y : Str} {xs : List Str} {is : List Nat} {params : Arguments} {body e : Expr} {nm : Option Str} {lp kp : Pos} {ta tk : TA} {dom : List PyData → Nat → Prop} {key : List PyData → Nat → PyData} {p pos : Pos}
    (hg : Gl X "sorted") (hm : X.mg "sorted" = none) (hv : bootBuiltins "sorted" = some (.builtin "sorted")) (hr : Room (k + 2) X.A) (S : LamF X scope y xs is)
    (hbind : ∀ (q : Str) (cl : List (Str × Addr)) (pm cd ctv v : Value), bindArgs (PySem.W.kla_fn "<lambda>" q params body scope cl pm cd ctv) ⟨[v], []⟩ = pure [(y, v)])
    (hel : ∀ (en : Env) (m : Str → Option Value) (h0 : Heap) (v : Value) (i : Nat) (fd : List PyData), en.scope = scope → Qc X.K X.mg X.base en → m y = some v → Vd h0 v (.int (i : Nat)) → FrD h0 en.cells xs fd → dom fd i → QE X.prog X.w X.base h0 k en m body (key fd i))
    (flat : ∀ (fd : List PyData) (i : Nat) (h : Heap) (u : Value), Vd h u (key fd i) → Reads h u (key fd i) []) (al : ∀ (fd : List PyData) (n : Nat), PySem.W.AllAlike ((List.range n).map (key fd))) (so : ∀ (fd : List PyData) (n : Nat), PySem.W.Sortable ((List.range n).map (key fd))) (dp : ∀ (fd : List PyData) (i : Nat), (key fd i).depth ≤ 60)
    (ha : PA X [e] ta) (hk : PK X [⟨nm, .Lambda params body scope lp, kp⟩] tk)
    (he : backTo pos (starEach [e] X.env) = (false, eval e X.env) :: backTo pos (starEach [] X.env) := by rfl) (hpl : (backTo pos (starEach [e] X.env)).any (·.1) = false := by rfl)
    (hall : (backToKw pos (keywordEach [⟨nm, .Lambda params body scope lp, kp⟩] X.env)).all (·.1.isSome) = true := by rfl) (hnone : (backToKw pos (keywordEach [⟨nm, .Lambda params body scope lp, kp⟩] X.env)).any (·.1.isNone) = false := by rfl) (hks : (backToKw pos (keywordEach [⟨nm, .Lambda params body scope lp, kp⟩] X.env)).filterMap (·.1) = [Str.ofString "key"] := by rfl) :
    PE X (.Call (.Name "sorted" p) [e] [⟨nm, .Lambda params body scope lp, kp⟩] pos) (tSortLam X.K is dom key (fun f c' => LamO f (X.env.qual ++ "<lambda>") params body scope (cloFrom X.env.cells scope.names []) c') (X.env.qual ++ "<lambda>") ta tk) := by
  refine ⟨fun pins s σ H Q I h => ?_⟩
  refine wpAny_Call_Name_kw (ld_blt I hg hm hv ?_ (by decide) (by decide))
  refine PyProof.Rows.callWith_kw (thn (ha.run pos pins s σ H _ I h) fun us s1 ⟨vs, H1, I1, r1, q1⟩ => thn (hk.run pos pins s1 σ H1 _ I1 q1) fun ws s2 ⟨zs, H2, I2, r2, q2⟩ => ?_) he hpl hall hnone
  rw [hks]
  obtain ⟨r, n, f, c', fd, rfl, hrng, hn, rfl, hf, hco, hcap, hdom, q⟩ := q2
  obtain ⟨w1, rfl, e1⟩ := vals1 r2
  obtain rfl : w1 = Value.ref f := e1
  rw [Vals.ref1 r1]
  obtain ⟨t, u, v, hrg⟩ := I2.hok r _ hrng
  obtain ⟨⟨pm, ctv, hfo⟩, _, _⟩ := I2.hok f _ hf
  obtain ⟨⟨oc, cvs, tq, hc1, hc2, hc3⟩, _, _⟩ := I2.hok c' _ hco
  have hrec : s2.heap.CodeRec (.ref c') (X.env.qual ++ "<lambda>") := ⟨c', oc, cvs, tq, rfl, hc1, hc2, hc3⟩
  have hr2 : Room (k + 1) X.A.in1.in1 := ⟨hr.hd, by have := hr.dp; show X.A.depth + 3 * (k + 1) + 5 < _; omega, by have := hr.un; show X.A.units + 1 + 1 + 16 * (k + 1) + 200 < _; omega⟩
  refine sorted_key_range (key fd) hr.hd hrg hn (al fd n) (so fd n) (fun x _ => by have := hr.un; have := dp fd x; omega) (fun x tx hx h tk' kp => ?_) fun out c h1 h' tk' k1 k2 hD ho => ?_
  · exact lam_turn (k := k) (dv := .int (x : Nat)) I2 S hfo hrec (hbind _ _ _ _ _ _) hr2 hcap ⟨_, .int _ _⟩ (fun en m h0 a1 a2 a3 a4 a5 => hel en m h0 _ x fd a1 a2 a3 a4 a5 (hdom x hx)) (flat fd x) h tk' kp
  · have I3 : Inv X pins σ H2 { s2 with heap := h1, toks := tk' } := I2.kept k1
    have hl : ((ordL (key fd) n).map fun i => V.int (i : Nat)).length ≤ sizeLine := by
      unfold ordL
      rw [List.length_map, List.length_mergeSort, List.length_range]
      exact Nat.le_trans hn (by decide)
    exact ⟨.ref _, upd H2 h1.objs.size (.lst ((ordL (key fd) n).map fun i => V.int (i : Nat))), I3.laid (t' := tk') k2 (Nat.le_refl _) ⟨hl, out, c, vals_each ho, hD⟩, rfl, q _ _ (I3.hok.fresh (Nat.le_refl _)) rfl⟩
end Gr

set_option Elab.async false
set_option maxRecDepth 100000
set_option maxHeartbeats 4000000
set_option linter.all false
/-! Ours: the law's call where tables of code objects may grow, by a promise for calls where no repr is under way. -/
namespace Gr
open PySem PySem.Spec PyProof.Rows L2 GxR
/-- what is tracked at the law's call: the tables at ts, and the script where it is not written -/
def startH (ts : List Addr) (a : Addr) (o : Option HO) : Hp := fun b => if b ∈ ts then some (.tbl #[]) else if b = a then o else none
theorem startH_tab {ts : List Addr} {a b : Addr} {o : Option HO} (h : b ∈ ts) : startH ts a o b = some (.tbl #[]) := if_pos h
theorem startH_at {ts : List Addr} {a : Addr} {o : Option HO} (h : a ∉ ts) : startH ts a o a = o := (if_neg h).trans (if_pos rfl)
theorem startH_inv {ts : List Addr} {a b : Addr} {o : Option HO} {u : HO} (h : startH ts a o b = some u) : (b ∈ ts ∧ u = .tbl #[]) ∨ (b ∉ ts ∧ b = a ∧ o = some u) := by
  unfold startH at h
  by_cases h1 : b ∈ ts
  · rw [if_pos h1] at h
    exact .inl ⟨h1, (Option.some.inj h).symm⟩
  · rw [if_neg h1] at h
    by_cases h2 : b = a
    · rw [if_pos h2] at h
      exact .inr ⟨h1, h2, h⟩
    · rw [if_neg h2] at h
      cases h
abbrev tabO (more : Array Value) : Obj := { cls := .none, data := .fields more }
theorem law_callQT {P : Program} {w : World} {K : PySem.W.Frag} {mg mb : Str → Option Value} {k : Nat} {fa a : Addr} {cs : List (Addr × Addr)} {fd : FuncData} {x : Str} {sp : Sp} {z : Shared} {vs : List Value} {ns : List Int}
    (KX : K.In z.heap) (G : z.heap.Ns mainGlobals mg) (B : z.heap.Ns builtinsNs mb) (B2 : ∀ x : Str, x ≠ "__name__" → mb x = bootBuiltins x) (L : z.heap.NoLimit) (G0 : z.gens = #[])
    (hT : ∀ p ∈ cs, z.heap.get? p.2 = some (tabO #[])) (nT : ∀ p ∈ cs, K.lookup p.2 = none) (C : ∀ p ∈ cs, PySem.W.CodeHd z.heap p.1 p.2)
    (M : ∃ (bm : Addr) (ob : Obj), mg "__builtins__" = some (.ref bm) ∧ bm ≠ builtinsNs ∧ z.heap.get? bm = some ob ∧ ob.cls = .type "module" ∧ ob.dict = some builtinsNs ∧ ob.data = .plain)
    (ha : z.heap.get? a = some { cls := .type "list", data := .seq vs.toArray }) (hi : IntsAre vs ns) (hl : ns.length ≤ sizeLine) (hr : Room k callerA)
    (F : ∀ base : Heap, K.In base → base.Ns mainGlobals mg → (∀ p ∈ cs, TabB base mg p.1 p.2) → FnQ P w K mg base CX0 k fa fd [x] sp) (hb : ∀ (s : Shared) (u : Value), BindsTo s fd ⟨[u], []⟩ [(x, u)])
    (hsp : ∀ H : Hp, (∀ p ∈ cs, H p.2 = some (.tbl #[])) → SqL K H a (ns.map V.int) → sp [.ref a] H (fun v _ => v = .bl true) fun _ _ _ => False) :
    codeAny (model P w) callerA (.call (.ref fa) ⟨[.ref a], []⟩) (fun r s' => r = .ok (.ret (.bool true)) ∧ OldK z.heap s'.heap ∧ s'.os = z.os ∧ AllBare s'.gens) z := by
  generalize hts : cs.map (·.2) = ts
  have inT : ∀ p ∈ cs, p.2 ∈ ts := fun p hp => by rw [← hts]; exact List.mem_map.mpr ⟨p, hp, rfl⟩
  have ofT : ∀ b ∈ ts, ∃ p ∈ cs, p.2 = b := fun b hb => by rw [← hts] at hb; exact List.mem_map.mp hb
  have atT : ∀ b ∈ ts, z.heap.get? b = some (tabO #[]) := fun b hb => by obtain ⟨p, hp, e⟩ := ofT b hb; rw [← e]; exact hT p hp
  have rv := vals_ints hi
  have lenV := hi.length
  have aT : a ∉ ts := fun q => by
    have e := ha.symm.trans (atT a q)
    cases e
  -- in both ways the script may stand: written, or tracked
  have core : ∀ o : Option HO, (o = none ∨ o = some (.frz { cls := .type "list", data := .seq vs.toArray } (.lst (ns.map V.int)))) → (o ≠ none → K.lookup a = none) → SqL K (startH ts a o) a (ns.map V.int) →
      codeAny (model P w) callerA (.call (.ref fa) ⟨[.ref a], []⟩) (fun r s' => r = .ok (.ret (.bool true)) ∧ OldK z.heap s'.heap ∧ s'.os = z.os ∧ AllBare s'.gens) z := by
    intro o ho hK hS
    generalize hH : startH ts a o = H at hS
    have tab : ∀ b ∈ ts, H b = some (.tbl #[]) := fun b q => by rw [← hH]; exact startH_tab q
    have inv : ∀ {b : Addr} {u : HO}, H b = some u → (b ∈ ts ∧ u = .tbl #[]) ∨ (b ∉ ts ∧ b = a ∧ u = .frz { cls := .type "list", data := .seq vs.toArray } (.lst (ns.map V.int)) ∧ K.lookup a = none) := fun {b u} e => by
      rw [← hH] at e
      rcases startH_inv e with q | ⟨q1, q2, q3⟩
      · exact .inl q
      · rcases ho with e1 | e1
        · rw [e1] at q3; cases q3
        · rw [e1] at q3
          exact .inr ⟨q1, q2, (Option.some.inj q3).symm, hK (by rw [e1]; exact fun q => nomatch q)⟩
    have hok : HOk P w H z.heap := fun b u e => by
      rcases inv e with ⟨q, rfl⟩ | ⟨_, rfl, rfl, _⟩
      · exact atT b q
      · exact ⟨ha, by rw [List.length_map]; exact hl, vs, _, rv, ha⟩
    -- what is neither a list nor an empty table is seen in the base
    have seen : ∀ {b : Addr} {ob : Obj}, z.heap.get? b = some ob → (∀ us n, ob.data ≠ .seq us n) → ob.data ≠ .fields #[] → (hidT z.heap H).get? b = some ob := fun {b ob} e h1 h2 => hidT_get e (by
      cases q : H b with
      | none => rfl
      | some u =>
        rcases inv q with ⟨q1, _⟩ | ⟨_, rfl, _, _⟩
        · rw [atT b q1] at e
          cases e
          exact absurd rfl h2
        · rw [ha] at e
          cases e
          exact absurd rfl (h1 _ _))
    have seenD : ∀ {b : Addr} {m : Str → Option Value}, z.heap.Ns b m → (hidT z.heap H).Ns b m := fun {b m} ⟨ob, es, ep, e, d, r⟩ =>
      ⟨ob, es, ep, seen e (fun us n q => by rw [d] at q; cases q) (fun q => by rw [d] at q; cases q), d, r⟩
    have KB : K.In (hidT z.heap H) := fun b ob e => hidT_get (KX b ob e) (by
      cases q : H b with
      | none => rfl
      | some u =>
        rcases inv q with ⟨q1, _⟩ | ⟨_, rfl, _, q2⟩
        · obtain ⟨p, hp, ep⟩ := ofT b q1
          rw [← ep, nT p hp] at e
          cases e
        · rw [q2] at e
          cases e)
    have MB : Mod K mg (hidT z.heap H) := ⟨KB, seenD G, ⟨mb, seenD B, B2⟩, let ⟨mc, h1, h2⟩ := L; ⟨mc, seenD h1, h2⟩⟩
    have TB : ∀ p ∈ cs, TabB (hidT z.heap H) mg p.1 p.2 := fun p hp => by
      refine ⟨?_, ?_, fun q => ?_⟩
      · obtain ⟨ob, us, file, tf, flags, tg, inF, text, tt, e1, r1, r2, r3, rest⟩ := C p hp
        refine ⟨ob, us, file, tf, flags, tg, inF, text, tt, seen e1 (fun us' n q => by rw [r2] at q; cases q) (fun q => ?_), r1, r2, r3, rest⟩
        rw [r2] at q
        cases q
        cases r3
      · obtain ⟨bm, ob, b1, b2, b3, b4, b5, b6⟩ := M
        refine ⟨bm, ob, b1, b2, fun q => ?_, fun q => ?_, seen b3 (fun us n q => by rw [b6] at q; cases q) (fun q => by rw [b6] at q; cases q), b4, b5, b6⟩
        · obtain ⟨ob', es, ep, e, hd, _⟩ := G
          rw [q, e] at b3
          cases b3
          rw [hd] at b6
          cases b6
        · rw [q, hT p hp] at b3
          cases b3
          cases b6
      · obtain ⟨ob, es, ep, e, hd, _⟩ := G
        rw [q, hT p hp] at e
        cases e
        cases hd
    have nofr : ∀ b, b ∉ frs ([] : List Env) := fun b q => nomatch q
    have e0 : Env0 P w K mg (hidT z.heap H) callerA [] z H := ⟨rfl, MB, fun b ob e => of_hidT e, Nat.le_of_eq (hidT_size _ _), trivial, fun b q => absurd q (nofr b), hok, .of_eq G0⟩
    refine codeAny_mono ((F _ KB (seenD G) TB).run callerA [] z H ⟨[.ref a], []⟩ [.ref a] [.ref a] _ _ rfl hr e0 (hb z (.ref a)) (.cons rfl .nil) (hsp H (fun p hp => tab _ (inT p hp)) hS)) fun r s' h => ?_
    match r, h with
    | .error e, h => exact False.elim h
    | .ok (.ret u), h =>
      obtain ⟨v, H', os, bare, un, hok', r', q⟩ := h
      have q' : v = .bl true := q
      subst q'
      obtain rfl : u = Value.bool true := r'
      have kept : ∀ b ob, b ∉ ts → z.heap.get? b = some ob → s'.heap.get? b = some ob := fun b ob nb e => by
        cases q : H b with
        | none => exact un.keep b ob e q (nofr b) (fun q => nomatch q)
        | some u =>
          rcases inv q with ⟨q1, _⟩ | ⟨_, _, rfl, _⟩
          · exact absurd q1 nb
          · have e1 := (hok b _ q).1
            have e2 := (hok' b _ (un.frzs b _ _ q)).1
            exact e2.trans (e1.symm.trans e)
      have more : ∀ b ∈ ts, ∃ m : Array Value, s'.heap.get? b = some (tabO m) := fun b q => by
        obtain ⟨m, e⟩ := un.tbls b #[] (tab b q)
        exact ⟨_, hok' b _ e⟩
      refine ⟨rfl, ⟨fun b ob e => ?_, fun b ob e => ?_⟩, os, bare⟩
      · by_cases hbt : b ∈ ts
        · obtain ⟨p, hp, rfl⟩ := ofT b hbt
          obtain ⟨m, e2⟩ := more _ hbt
          rw [hT p hp] at e
          cases e
          exact .inr (.inl ⟨((C p hp).tab (hT p hp)).isCodeTable, rfl, #[], m, rfl, by rw [Array.empty_append]; exact e2⟩)
        · exact .inl (kept b ob hbt e)
      · by_cases hbt : b ∈ ts
        · exact (more b hbt).elim fun m e2 => ⟨_, e2⟩
        · exact ⟨ob, kept b ob hbt e⟩
  cases hk : K.lookup a with
  | some ob =>
    have e := KX a ob hk
    rw [ha] at e
    cases e
    exact core none (.inl rfl) (fun q => absurd rfl q) (.inr ⟨_, vs.toArray, _, hk, rfl, rfl, rfl, by rw [List.size_toArray, lenV]; exact hl, by simpa using rv⟩)
  | none => exact core _ (.inr rfl) (fun _ => hk) (.inl (.inr ⟨_, startH_at aT⟩))
/-- what the head leaves, from such a promise -/
theorem walk_ofQT {l : PySem.W.OpenLaw} {n k : Nat} {q : Program} {loose : List Str} {XP : (Str → Option Value) → Heap → Prop} {YP : World → Heap → Prop} {d : DefRec} {K : Params → PySem.W.Frag} {x : Str}
    (hn : l.most = some n) (hn2 : n ≤ sizeLine) (hdf : d.params.defaults = []) (hr : Room k callerA) (hY : ∀ (w : World) (h : Heap), YP w h → (K w.params).In h)
    (F : ∀ (w : World) (mg : Str → Option Value) (fa : Addr) (h : Heap), YP w h → (K w.params).In h → h.Ns mainGlobals mg → mg d.name = some (.ref fa) →
      ∃ (fd : FuncData) (cs : List (Addr × Addr)) (sp : Sp), (∀ p ∈ cs, h.get? p.2 = some (tabO #[])) ∧ (∀ p ∈ cs, (K w.params).lookup p.2 = none) ∧ (∀ p ∈ cs, PySem.W.CodeHd h p.1 p.2) ∧ (∀ (s : Shared) (u : Value), BindsTo s fd ⟨[u], []⟩ [(x, u)]) ∧
        (∀ (H : Hp) (a : Addr) (ns : List Int), ns.length ≤ n → (∀ p ∈ cs, H p.2 = some (.tbl #[])) → SqL (K w.params) H a (ns.map V.int) → sp [.ref a] H (fun v _ => v = .bl true) fun _ _ _ => False) ∧
        ∀ base : Heap, (K w.params).In base → base.Ns mainGlobals mg → (∀ p ∈ cs, TabB base mg p.1 p.2) → FnQ l.prog w (K w.params) mg base CX0 k fa fd [x] sp) :
    PySem.W.WalkO q loose XP YP l.row.toRowW d [] (fun f vs => PySem.call f vs) := by
  refine Att.attach_call hn hdf fun w _ z mg _ fa _ _ _ _ a vs ns G Y _ _ _ hmg hobj hints hlen hg => ?_
  have KX := hY w _ Y
  obtain ⟨fd, cs, sp, hT, nT, C, hb, hsp, hF⟩ := F w mg fa _ Y KX G.T.g hmg
  exact law_callQT KX G.T.g G.T.b G.T.builtins G.T.nolimit hg hT nT C G.T.bmain hobj hints (Nat.le_trans hlen hn2) hr hF hb fun H hH hS => hsp H a ns hlen hH hS
end Gr

set_option Elab.async false
set_option maxRecDepth 100000
set_option maxHeartbeats 4000000
set_option linter.all false
/-! Ours: a generator expression whose element may do what a def may do: the turns, the sleep, all(..) of it. -/
namespace Gr
open PySem PySem.Spec PyProof.Rows L2 GxR GenW
/-- while the generator sleeps nothing that stood is changed -/
structure Slp (s s' : Shared) : Prop where
  os : s'.os = s.os
  bare : AllBare s'.gens
  keep : ∀ b o, s.heap.get? b = some o → s'.heap.get? b = some o
theorem Slp.refl {s : Shared} (h : AllBare s.gens) : Slp s s := ⟨rfl, h, fun _ _ e => e⟩
theorem Slp.trans {s s' s'' : Shared} (a : Slp s s') (b : Slp s' s'') : Slp s s'' := ⟨b.os.trans a.os, b.bare, fun x o e => b.keep x o (a.keep x o e)⟩
theorem bare_set {s : Shared} {g : Nat} {x : GenState} (h : AllBare s.gens) (hx : x.bare = true) : AllBare (s.setGen g x).gens := fun y hy => by
  have hy : y ∈ s.gens.setIfInBounds g x := hy
  rcases Array.mem_or_eq_of_mem_setIfInBounds hy with q | q
  · exact h y q
  · rw [q]; exact hx
theorem Slp.set {s : Shared} {g : Nat} {x : GenState} (h : AllBare s.gens) (hx : x.bare = true) : Slp s (s.setGen g x) := ⟨rfl, bare_set h hx, fun _ _ e => e⟩
section
variable {prog : Program} {w : World}
/-- what each turn asks and leaves: W i: ahead of item i, D: at the end -/
structure GTurn (prog : Program) (w : World) (B : Around) (cenv : Env) (tg elt : Expr) (I a : Addr) (g n : Nat) (F : Nat → Value → Prop) (W : Nat → Shared → Prop) (D : Shared → Prop) : Prop where
  slp : ∀ i s s', W i s → Slp s s' → W i s'
  slpD : ∀ s s', D s → Slp s s' → D s'
  fin : ∀ i s, i ≤ n → W i s → D s
  bare : ∀ s, D s → AllBare s.gens
  lim : ∀ s, D s → s.heap.NoLimit
  gen : ∀ s, D s → s.heap.IsGen a g
  self : ∀ (B' : Around) (E : Value → Shared → Prop) s, W 0 s → wpAny (model prog w) B' (pyIter (.ref I)) (fun it s1 => it = .ref I ∧ W 0 s1) E s
  item : ∀ (E : Value → Shared → Prop) i s, i < n → W i s → wpAny (model prog w) B (pyNext (.ref I)) (fun r s1 => ∃ v, r = some v ∧ wpAny (model prog w) B (letOwnedTupleGo tg (.ref I) v) (fun _ s2 => wpAny (model prog w) B (assign tg cenv v) (fun _ s3 => wpAny (model prog w) B (eval elt cenv) (fun y s4 => F i y ∧ W (i + 1) s4) E s3) E s2) E s1) E s
  done : ∀ (E : Value → Shared → Prop) s, W n s → wpAny (model prog w) B (pyNext (.ref I)) (fun r s1 => r = none ∧ D s1) E s
def EndK (n : Nat) (D : Shared → Prop) : Nat → Shared → Shared → Prop := fun m _ s => m = 0 ∧ D s
def OutK (n : Nat) (F : Nat → Value → Prop) (W : Nat → Shared → Prop) : Protocol := fun m _ v s kap => m < n ∧ F (n - 1 - m) v ∧ W (n - m) s ∧ ∀ s', Slp s s' → kap (.send .none) s'
variable {A : Around} {cenv : Env} {tg elt iter : Expr} {scope : Scope} {pos : Pos} {I a : Addr} {g n : Nat} {F : Nat → Value → Prop} {W : Nat → Shared → Prop} {D : Shared → Prop}
/-- the loop's code -/
abbrev loopC (tg elt iter : Expr) (scope : Scope) (pos : Pos) (I : Addr) (cenv : Env) : Code := .compLoop (.GeneratorExp elt [⟨tg, iter, [], 0⟩] scope pos) 0 (.ref I) .none cenv
theorem segK (hco : cenv.scope.isCoroutine = false) (T : GTurn prog w (A.over (loopC tg elt iter scope pos I cenv) []) cenv tg elt I a g n F W D) :
    ∀ (k i : Nat) (s₀ s : Shared), n - i = k → i ≤ n → W i s → Seg (model prog w) A (fun m s₀ r s₁ => r = .ok .next ∧ EndK n D m s₀ s₁) (OutK n F W) k s₀ (loopC tg elt iter scope pos I cenv) ((model prog w).den (loopC tg elt iter scope pos I cenv)) [] s := by
  intro k
  induction k with
  | zero =>
    intro i s₀ s hk hi hw
    obtain rfl : i = n := by omega
    show Seg _ A _ _ _ s₀ _ ((compTurn (.GeneratorExp elt [⟨tg, iter, [], 0⟩] scope pos) 0 (.ref I) .none cenv).onRaise (leaving cenv)) [] s
    rw [compTurn_gen, Sem.onRaise_eq_wrap]
    refine seg_bind_wrap (wpAny_standAt (seg_bind_wrap (wpAny_mono (T.done _ s hw) ?_ fun _ _ e => e)))
    rintro r s1 ⟨rfl, w1⟩
    exact seg_end (.ok .next) ⟨rfl, rfl, w1⟩
  | succ k ih =>
    intro i s₀ s hk hi hw
    have hlt : i < n := by omega
    show Seg _ A _ _ _ s₀ _ ((compTurn (.GeneratorExp elt [⟨tg, iter, [], 0⟩] scope pos) 0 (.ref I) .none cenv).onRaise (leaving cenv)) [] s
    rw [compTurn_gen, Sem.onRaise_eq_wrap]
    refine seg_bind_wrap (wpAny_standAt (seg_bind_wrap (wpAny_mono (T.item _ i s hlt hw) ?_ fun _ _ e => e)))
    rintro r s1 ⟨v, rfl, h1⟩
    refine seg_bind_wrap (wpAny_mono h1 ?_ fun _ _ e => e)
    intro _ s2 h2
    refine seg_bind_wrap (wpAny_mono h2 ?_ fun _ _ e => e)
    intro _ s3 h3
    have hy : ∀ v, yieldOut cenv v = yieldValue v := fun v => by simp only [yieldOut, hco, Bool.false_eq_true, if_false]
    refine seg_bind_wrap (wpAny_of_eq (by rw [List.forIn_nil]) ?_)
    simp only [if_true, hy]
    rw [Sem.bind_eq_wrap', Sem.bind_eq_wrap', Sem.wrap_wrap, Sem.wrap_wrap]
    refine seg_wrap (wpAny_mono h3 ?_ fun _ _ e => e)
    rintro y s4 ⟨hF, w4⟩
    have e1 : n - 1 - k = i := by omega
    have e2 : n - k = i + 1 := by omega
    refine seg_at (seg_yield rfl rfl rfl ⟨by omega, by rw [e1]; exact hF, by rw [e2]; exact w4, fun s5 h5 => ?_⟩)
    exact seg_again rfl (ih (i + 1) s5 s5 (by omega) hlt (T.slp _ _ _ w4 h5))
abbrev firstC (tg elt iter : Expr) (scope : Scope) (pos : Pos) (I : Addr) (cenv : Env) : Code := .compStart (.GeneratorExp elt [⟨tg, iter, [], 0⟩] scope pos) 0 (.ref I) .none cenv
theorem segK0 (hco : cenv.scope.isCoroutine = false) (T : GTurn prog w (A.over (loopC tg elt iter scope pos I cenv) []) cenv tg elt I a g n F W D) (s₀ s : Shared) (hw : W 0 s) :
    Seg (model prog w) A (fun m s₀ r s₁ => r = .ok .next ∧ EndK n D m s₀ s₁) (OutK n F W) n s₀ (firstC tg elt iter scope pos I cenv) ((model prog w).den (firstC tg elt iter scope pos I cenv)) [] s := by
  have loop := fun s1 w1 => segK (iter := iter) (scope := scope) (pos := pos) hco T n 0 s₀ s1 (Nat.sub_zero _) (Nat.zero_le _) w1
  show Seg _ A _ _ _ s₀ _ ((compStart (.GeneratorExp elt [⟨tg, iter, [], 0⟩] scope pos) 0 (.ref I) .none cenv).onRaise (leaving cenv)) [] s
  unfold compStart
  rw [Sem.onRaise_eq_wrap]
  show Seg _ A _ _ _ s₀ _ ((ask >>= _).wrap _ _ _ _) [] s
  refine seg_bind_wrap (wpAny_askSetting ?_)
  split
  · exact seg_again rfl (loop s hw)
  · have self := fun B' E => T.self B' E s hw
    first
      | exact seg_bind_wrap (wpAny_rule (seg_bind_wrap (wpAny_standAt (seg_bind_wrap (wpAny_mono (self _ _) (fun it s1 ⟨e, w1⟩ => by subst e; exact seg_again rfl (loop s1 w1)) fun _ _ e => e)))))
      | (refine seg_bind_wrap (wpAny_rule ?_); show Seg _ A _ _ _ s₀ _ ((standAt iter.pos >>= _).wrap _ _ _ _) [] s; exact seg_bind_wrap (wpAny_standAt (seg_bind_wrap (wpAny_mono (self _ _) (fun it s1 ⟨e, w1⟩ => by subst e; exact seg_again rfl (loop s1 w1)) fun _ _ e => e))))
end
end Gr

set_option Elab.async false
set_option maxRecDepth 100000
set_option maxHeartbeats 4000000
set_option linter.all false
/-! Ours: such a generator is asked for its next value; all(..), any(..) walk it. -/
namespace Gr
open PySem PySem.Spec PyProof.Rows L2 GxR GenW
section
variable {prog : Program} {w : World} {B : Around} {cenv : Env} {tg elt : Expr} {I a : Addr} {g n : Nat} {F : Nat → Value → Prop} {W : Nat → Shared → Prop} {D : Shared → Prop} {A0 : Around}
/-- the generator a sleeps ahead of item j -/
def GenK (prog : Program) (w : World) (B : Around) (g n : Nat) (F : Nat → Value → Prop) (W : Nat → Shared → Prop) (D : Shared → Prop) (j : Nat) (s : Shared) : Prop :=
  W j s ∧ ∃ gs, s.gens[g]? = some gs ∧ ∀ s'', Slp s s'' → gs.Goes (model prog w) B.in1 (fun m s₀ r s₁ => r = .ok .next ∧ EndK n D m s₀ s₁) (OutK n F W) (n - j) (.send .none) s''
theorem set_at {s : Shared} {g : Nat} {y : GenState} (h : g < (s.setGen g y).gens.size) : (s.setGen g y).gens[g]? = some y := by
  rw [setGen_size] at h
  show (s.gens.setIfInBounds g y)[g]? = some y
  rw [Array.getElem?_setIfInBounds_self]
  simp [h]
theorem lt_of_at {s : Shared} {g : Nat} {y : GenState} (h : s.gens[g]? = some y) : g < s.gens.size := (Array.getElem?_eq_some_iff.mp h).1
theorem nextK (T : GTurn prog w A0 cenv tg elt I a g n F W D) (hh : B.handled = none) (hroom : B.depth < recursionLimit) {j : Nat} {s : Shared} {Q : Option Value → Shared → Prop} {E : Value → Shared → Prop} (hj : j < n) (st : GenK prog w B g n F W D j s)
    (hQ : ∀ v s', F j v → GenK prog w B g n F W D (j + 1) s' → Q (some v) s') : wpAny (model prog w) B (pyNext (.ref a)) Q E s := by
  obtain ⟨hw, gs, hgs, hgo⟩ := st
  have hd := T.fin j s (Nat.le_of_lt hj) hw
  obtain ⟨m, hm⟩ : ∃ m, n - j = m + 1 := ⟨n - j - 1, by omega⟩
  rw [hm] at hgo
  refine wpAny_gsz (Nat.le_refl s.gens.size) ?_
  refine wpAny_pyNext_genexpQ (P := EndK n D) hh (T.lim s hd) hroom (T.gen s hd) hgs (hgo _ (Slp.set (T.bare s hd) rfl)) (fun v s₁ gs' hb hv => ?_) (fun s₁ hp h' hk => ?_)
  · intro hsz
    obtain ⟨_, hF, hW, hkap⟩ := hv
    have e1 : n - 1 - (m + 1 - 1) = j := by omega
    have e2 : n - (m + 1 - 1) = j + 1 := by omega
    have e3 : n - (j + 1) = m := by omega
    rw [e1] at hF
    rw [e2] at hW
    have sl : Slp s₁ (s₁.setGen g gs') := Slp.set (T.bare _ (T.fin _ _ hj hW)) hb
    refine hQ v _ hF ⟨T.slp _ _ _ hW sl, gs', set_at (Nat.lt_of_lt_of_le (lt_of_at hgs) hsz), fun s'' h => ?_⟩
    rw [e3]
    exact hkap s'' (sl.trans h)
  · exact absurd hp.1 (Nat.succ_ne_zero m)
theorem doneK (T : GTurn prog w A0 cenv tg elt I a g n F W D) (hh : B.handled = none) (hroom : B.depth < recursionLimit) {s : Shared} {Q : Option Value → Shared → Prop} {E : Value → Shared → Prop} (st : GenK prog w B g n F W D n s)
    (hQ : ∀ s', D s' → Q none s') : wpAny (model prog w) B (pyNext (.ref a)) Q E s := by
  obtain ⟨hw, gs, hgs, hgo⟩ := st
  have hd := T.fin n s (Nat.le_refl _) hw
  rw [Nat.sub_self] at hgo
  refine wpAny_pyNext_genexpQ (P := EndK n D) hh (T.lim s hd) hroom (T.gen s hd) hgs (hgo _ (Slp.set (T.bare s hd) rfl)) (fun v s₁ gs' hb hv => ?_) (fun s₁ hp h' hk => ?_)
  · obtain ⟨z, _, hW, hkap⟩ := hv
    exact (hkap s₁ (Slp.refl (T.bare _ (T.fin _ _ (Nat.sub_le ..) hW)))).elim
  · exact hQ _ (T.slpD _ _ hp.2 ⟨rfl, bare_set (T.bare _ hp.2) rfl, hk⟩)
end
section
variable {prog : Program} {w : World} {A A0 : Around} {cenv : Env} {tg elt : Expr} {I a : Addr} {g n : Nat} {W : Nat → Shared → Prop} {D : Shared → Prop} {R : Result → Shared → Prop}
/-- item i is the bool tr i -/
def BlK (tr : Nat → Bool) (i : Nat) (v : Value) : Prop := v = .bool (tr i)
theorem all_loopK {tr : Nat → Bool} (T : GTurn prog w A0 cenv tg elt I a g n (BlK tr) W D) (hh : A.handled = none) (hroom : A.in1.depth < recursionLimit) :
    ∀ (k i : Nat) (s : Shared), n - i = k → i ≤ n → GenK prog w A.in1 g n (BlK tr) W D i s → (∀ s', D s' → R (.ok (.ret (.bool (((List.range n).drop i).all tr)))) s') →
      codeAny (model prog w) A (.builtin "all.loop" ⟨[.ref a], []⟩) R s := by
  intro k
  induction k with
  | zero =>
    intro i s hk hi hst hR
    obtain rfl : i = n := by omega
    refine codeAny_builtin F.entry_all_loop ?_
    rw [Around.under_plainId F.plain_all_loop _]
    show wpAny _ A.in1 (pyNext (.ref a) >>= _) _ _ s
    refine wpAny_bind (doneK (B := A.in1) T hh hroom hst fun s' hw => ?_)
    refine wpAny_bind (wpAny_rule (wpAny_pure ?_))
    have := hR s' hw
    rw [List.drop_of_length_le (by simp)] at this
    exact this
  | succ k ih =>
    intro i s hk hi hst hR
    have hlt : i < n := by omega
    have hd : (List.range n).drop i = i :: (List.range n).drop (i + 1) := by
      rw [List.drop_eq_getElem_cons (by simpa using hlt)]; simp
    refine codeAny_builtin F.entry_all_loop ?_
    rw [Around.under_plainId F.plain_all_loop _]
    show wpAny _ A.in1 (pyNext (.ref a) >>= _) _ _ s
    refine wpAny_bind (nextK (B := A.in1) T hh hroom hlt hst fun v s' hP hst' => ?_)
    obtain rfl : v = .bool (tr i) := hP
    refine wpAny_bind (wpAny_holding (wpAny_truthy_bool ?_))
    refine wpAny_bind (wpAny_letGo ?_)
    cases hb : tr i with
    | true =>
      simp only [if_true]
      refine wpAny_pure ⟨plainId_quiet F.plain_all_loop _, ih (i + 1) _ (by omega) hlt hst' fun s'' hm' => ?_⟩
      have := hR s'' hm'
      rw [hd, List.all_cons, hb, Bool.true_and] at this
      exact this
    | false =>
      simp only [Bool.false_eq_true, if_false]
      refine wpAny_bind (wpAny_rule (wpAny_pure ?_))
      have := hR s' (T.fin _ _ hlt hst'.1)
      rw [hd, List.all_cons, hb, Bool.false_and] at this
      exact this
theorem any_loopK {tr : Nat → Bool} (T : GTurn prog w A0 cenv tg elt I a g n (BlK tr) W D) (hh : A.handled = none) (hroom : A.in1.depth < recursionLimit) :
    ∀ (k i : Nat) (s : Shared), n - i = k → i ≤ n → GenK prog w A.in1 g n (BlK tr) W D i s → (∀ s', D s' → R (.ok (.ret (.bool (((List.range n).drop i).any tr)))) s') →
      codeAny (model prog w) A (.builtin "any.loop" ⟨[.ref a], []⟩) R s := by
  intro k
  induction k with
  | zero =>
    intro i s hk hi hst hR
    obtain rfl : i = n := by omega
    refine codeAny_builtin F.entry_any_loop ?_
    rw [Around.under_plainId F.plain_any_loop _]
    show wpAny _ A.in1 (pyNext (.ref a) >>= _) _ _ s
    refine wpAny_bind (doneK (B := A.in1) T hh hroom hst fun s' hw => ?_)
    refine wpAny_bind (wpAny_rule (wpAny_pure ?_))
    have := hR s' hw
    rw [List.drop_of_length_le (by simp)] at this
    exact this
  | succ k ih =>
    intro i s hk hi hst hR
    have hlt : i < n := by omega
    have hd : (List.range n).drop i = i :: (List.range n).drop (i + 1) := by
      rw [List.drop_eq_getElem_cons (by simpa using hlt)]; simp
    refine codeAny_builtin F.entry_any_loop ?_
    rw [Around.under_plainId F.plain_any_loop _]
    show wpAny _ A.in1 (pyNext (.ref a) >>= _) _ _ s
    refine wpAny_bind (nextK (B := A.in1) T hh hroom hlt hst fun v s' hP hst' => ?_)
    obtain rfl : v = .bool (tr i) := hP
    refine wpAny_bind (wpAny_holding (wpAny_truthy_bool ?_))
    refine wpAny_bind (wpAny_letGo ?_)
    cases hb : tr i with
    | false =>
      simp only [Bool.false_eq_true, if_false]
      refine wpAny_pure ⟨plainId_quiet F.plain_any_loop _, ih (i + 1) _ (by omega) hlt hst' fun s'' hm' => ?_⟩
      have := hR s'' hm'
      rw [hd, List.any_cons, hb, Bool.false_or] at this
      exact this
    | true =>
      simp only [if_true]
      refine wpAny_bind (wpAny_rule (wpAny_pure ?_))
      have := hR s' (T.fin _ _ hlt hst'.1)
      rw [hd, List.any_cons, hb, Bool.true_or] at this
      exact this
theorem call_allK {s : Shared} {Q : Value → Shared → Prop} {E : Value → Shared → Prop} {tr : Nat → Bool} (T : GTurn prog w A0 cenv tg elt I a g n (BlK tr) W D) (hh : A.handled = none) (hroom : A.in1.depth < recursionLimit)
    (st : GenK prog w A.in1 g n (BlK tr) W D 0 s) (hQ : ∀ s', D s' → Q (.bool ((List.range n).all tr)) s') : wpAny (model prog w) A (call (.builtin "all") [.ref a]) Q E s := by
  refine call_function_tree F.kind_all F.plain_all F.entry_all (F.args_all1 _) ?_
  unfold Builtin.«all»
  refine wpAny_bind (m := oneArg "all" _) (wpAny_pure ?_)
  refine wpAny_bind (wpAny_pyIter_gen (T.gen s (T.fin 0 s (Nat.zero_le _) st.1)) ?_)
  exact wpAny_pure ⟨plainId_quiet F.plain_all_loop _, all_loopK T hh hroom n 0 s rfl (Nat.zero_le _) st fun s' hm => by simpa using hQ s' hm⟩
theorem call_anyK {s : Shared} {Q : Value → Shared → Prop} {E : Value → Shared → Prop} {tr : Nat → Bool} (T : GTurn prog w A0 cenv tg elt I a g n (BlK tr) W D) (hh : A.handled = none) (hroom : A.in1.depth < recursionLimit)
    (st : GenK prog w A.in1 g n (BlK tr) W D 0 s) (hQ : ∀ s', D s' → Q (.bool ((List.range n).any tr)) s') : wpAny (model prog w) A (call (.builtin "any") [.ref a]) Q E s := by
  refine call_function_tree F.kind_any F.plain_any F.entry_any (F.args_any1 _) ?_
  unfold Builtin.«any»
  refine wpAny_bind (m := oneArg "any" _) (wpAny_pure ?_)
  refine wpAny_bind (wpAny_pyIter_gen (T.gen s (T.fin 0 s (Nat.zero_le _) st.1)) ?_)
  exact wpAny_pure ⟨plainId_quiet F.plain_any_loop _, any_loopK T hh hroom n 0 s rfl (Nat.zero_le _) st fun s' hm => by simpa using hQ s' hm⟩
end
end Gr

set_option Elab.async false
set_option maxRecDepth 100000
set_option maxHeartbeats 4000000
set_option linter.all false
/-! Ours: a generator expression whose element may do what a def may do: its own context, the rule of all(..), any(..). -/
namespace Gr
open PySem PySem.Spec PyProof.Rows L2 GxR GenW
section
variable {X : Cx} {pins : List (Addr × Obj)} {σ : L2.St} {H : Hp} {s : Shared}
/-- the code of a generator expression, and the built-ins it sees -/
theorem code_then0 {c P : Addr} {ps : Array Value} {scope : Scope} {q : Str} {gpos : Pos} {E : Value → Shared → Prop} {R : Value → Addr → Shared → Prop} (I : Inv X pins σ H s)
    (TB : TabB X.base X.mg c P) (hcode : X.env.code = .ref c) (hP : H P = some (.tbl ps)) (ht : TriplesOk ps.toList)
    (h : ∀ (cv : Value) (k : Heap) (tk : Nat) (more : Array Value), (∀ b u, b ≠ P → s.heap.get? b = some u → k.get? b = some u) → s.heap.objs.size ≤ k.objs.size → k.get? P = some { cls := .none, data := .fields (ps ++ more) } → TriplesOk (ps ++ more).toList → k.NoLimit →
      R cv builtinsNs { s with heap := k, toks := tk }) :
    wpAny (model X.prog X.w) X.A (genexprCode X.env gpos q scope) (fun cv z => wpAny (model X.prog X.w) X.A (builtinsFor X.env.globals X.env.builtins) (fun bi z' => R cv bi z') E z) E s := by
  have p0 : s.heap.get? P = some { cls := .none, data := .fields ps } := I.hok P _ hP
  have p1 : s.heap.get? P = some { cls := .none, data := .fields ps } := p0
  have cd : PySem.W.CodeHd s.heap c P := TB.code.keeps fun b u e => I.bk b u e
  have lim : s.heap.NoLimit := I.nolimit
  have nP : cStatics ≠ P := by
    obtain ⟨_, ⟨o', es, ep, ho, hd, _⟩, _⟩ := I.nolimit
    intro e
    rw [e, p0] at ho
    cases ho
    cases hd
  have last : ∀ (cv : Value) (k : Heap) (tk : Nat) (more : Array Value), Heap.ExtBut P s.heap k → s.heap.objs.size ≤ k.objs.size → k.get? P = some { cls := .none, data := .fields (ps ++ more) } → TriplesOk (ps ++ more).toList →
      wpAny (model X.prog X.w) X.A (builtinsFor X.env.globals X.env.builtins) (fun bi z' => R cv bi z') E { s with heap := k, toks := tk } := by
    intro cv k tk more hx hs hp ht'
    obtain ⟨bm, ob, e1, e2, e3, e4, e5, e6, e7, e8⟩ := TB.bm
    have up : ∀ b u, b ≠ P → s.heap.get? b = some u → k.get? b = some u := fun b u n e => hx b u n e
    have g : k.Ns X.env.globals X.mg := by
      rw [I.ok.glob]
      exact (I.mod.glob.keeps I.bk).extBut hx TB.gP
    refine wpAny_builtinsFor g e1 e2 (up _ _ e4 (I.bk _ _ e5)) e6 e7 e8 (h cv k tk more hx ?_ hp ht' (lim.extBut hx nP))
    exact hs
  cases hf : codeAmong gpos ps.toList with
  | none =>
    refine wpAny_genexprCodeX hcode (cd.code p1 ht) (cd.tab p1) hf fun c' k tk hx hge hlt hco _ htab _ => ?_
    obtain ⟨_, _, _, _, _, _, _, _, _, _, _, _, _, _, _, _, _, _, _, htr, _⟩ := hco
    exact last _ k tk _ hx (Nat.le_of_lt (Nat.lt_of_le_of_lt hge hlt)) htab.2 htr
  | some cv =>
    refine wpAny_genexprCode_hit hcode (cd.code p1 ht) hf ?_
    have e : ps ++ #[] = ps := by simp
    exact last cv s.heap s.toks #[] (fun b u _ e => e) (Nat.le_refl _) (by rw [e]; exact p1) (by rw [e]; exact ht)

end
/-- the generator expression's own scope -/
structure GxS (sc scope : Scope) : Prop where
  kind : scope.kind = .function
  co : scope.isCoroutine = false
  cell : ∀ y ∈ scope.names, y.2 ≠ .cell
  dot : scope.names.lookup (".0" : Str) = some NameKind.local
  free : ∀ y ∈ scope.names, y.2 = .free → sc.names.lookup y.1 = some .cell ∨ sc.names.lookup y.1 = some .free
def gxSB (sc scope : Scope) : Bool :=
  decide (scope.kind = .function) && !scope.isCoroutine && decide (scope.names.lookup (".0" : Str) = some NameKind.local) && scope.names.all fun y => !decide (y.2 = .cell) && (!decide (y.2 = .free) || decide (sc.names.lookup y.1 = some .cell) || decide (sc.names.lookup y.1 = some .free))
theorem gxS_by {sc scope : Scope} (h : gxSB sc scope = true) : GxS sc scope := by
  unfold gxSB at h
  simp only [Bool.and_eq_true, Bool.or_eq_true, Bool.not_eq_true', decide_eq_true_eq, decide_eq_false_iff_not, List.all_eq_true] at h
  obtain ⟨⟨⟨h1, h2⟩, h3⟩, h4⟩ := h
  refine ⟨h1, h2, fun y hy => (h4 y hy).1, h3, fun y hy e => ?_⟩
  rcases (h4 y hy).2 with (z | z) | z
  · exact absurd e z
  · exact .inl z
  · exact .inr z
theorem GxS.has {X : Cx} {scope : Scope} (L : GxS X.env.scope scope) (ok : X.Ok) : ∀ y ∈ scope.names, y.2 = .free → ∃ c, X.env.cells.lookup y.1 = some c := fun y hy e => by
  rcases L.free y hy e with k | k
  · exact ok.has _ (.inl k)
  · exact ok.has _ (.inr k)
/-- the slots of the generator's frame at its start: what it captured -/
def CapOk (N : List Str) (scope : Scope) (N' : List Str) (cap : List (Option V) → List (Option V)) : Prop :=
  ∀ σ : List (Option V), σ.length = N.length → (cap σ).length = N'.length ∧ ∀ (i : Nat) (y : Str) (v : V), N'[i]? = some y → (cap σ)[i]? = some (some v) → scope.names.lookup y = some .free ∧ ∃ j : Nat, N[j]? = some y ∧ σ[j]? = some (some v)
theorem cap_none {N N' : List Str} {scope : Scope} : CapOk N scope N' (fun _ => N'.map fun _ => none) := fun σ _ => ⟨List.length_map .., fun i y v _ e => by
  rw [List.getElem?_map] at e
  cases hx : N'[i]? with
  | none => rw [hx] at e; cases e
  | some z => rw [hx] at e; cases e⟩
abbrev gxEnv (X : Cx) (scope : Scope) (C : Addr) (code : Value) (bi : Addr) : Env := genEnv scope (cloFrom X.env.cells scope.names []) C code bi X.env
/-- the context of the element: the frame ce, entered at s1 -/
def gxCx (X : Cx) (A0 : Around) (s1 : Shared) (H1 : Hp) (N' : List Str) (ce : Env) (fp : List Addr) : Cx where
  prog := X.prog
  w := X.w
  K := X.K
  mg := X.mg
  base := X.base
  A := A0
  N := N'
  s_0 := s1
  H_0 := H1
  env := ce
  outer := X.stack
  stack := ce :: X.stack
  ex := fp
  fn := fun _ => false
  calm := true
  pn := []
  xe := fun _ _ => False
section
variable {X : Cx} {pins : List (Addr × Obj)} {σ : L2.St} {H : Hp} {s : Shared}
theorem gx_start {A0 : Around} {scope : Scope} {N' : List Str} {cap : L2.St → L2.St} {C a P : Addr} {code : Value} {bi : Addr} {fp : List Addr} {ps more : Array Value} {h5 : Heap} {g5 : Array GenState} {d5 : Drawn} {t5 : Nat} {oa : Obj} {m : Str → Option Value}
    (I : Inv X pins σ H s) (L : GxS X.env.scope scope) (cp : CapOk X.N scope N' cap) (hbi : bi = builtinsNs) (hd : A0.handled = none) (hfr : A0.frames = some (gxEnv X scope C code bi :: X.stack)) (hP : H P = some (.tbl ps))
    (kp : ∀ b o, b ≠ P → s.heap.get? b = some o → h5.get? b = some o) (hp5 : h5.get? P = some { cls := .none, data := .fields (ps ++ more) }) (hb : AllBare g5)
    (hns : h5.Ns C m) (hC : s.heap.objs.size ≤ C) (ha : s.heap.objs.size ≤ a) (hac : a ≠ C) (hoa : h5.get? a = some oa) (hda : ∀ v, oa.data ≠ .cell v)
    (hf : ∀ b ∈ fp, FpOk X pins H b ∧ b < s.heap.objs.size) :
    Inv (gxCx X A0 s H N' (gxEnv X scope C code bi) fp) [(a, oa)] (cap σ) (upd H P (.tbl (ps ++ more))) { s with heap := h5, gens := g5, drawn := d5, toks := t5 } := by
  have J := inv_tab (more := more) (h' := h5) (g' := g5) (d' := d5) (t' := t5) I hP kp hp5 hb
  have e0 := I.env0
  have hfree := L.has I.ok
  have p0 : s.heap.get? P = some { cls := .none, data := .fields ps } := I.hok P _ hP
  have nN : ∀ b, H b = none → b ≠ P := fun b e z => by
    rw [z, hP] at e
    cases e
  have at_ : ∀ b, b ≠ P → upd H P (.tbl (ps ++ more)) b = H b := fun b h1 => upd_ne h1
  have frN : ∀ {b : Addr}, s.heap.objs.size ≤ b → upd H P (.tbl (ps ++ more)) b = none := fun {b} h => by
    have n := I.hok.fresh h
    rw [at_ b (nN b n), n]
  have frS : ∀ {b : Addr}, s.heap.objs.size ≤ b → b ∉ frs X.stack := fun {b} h z => by
    rcases List.mem_cons.mp (I.stkSub b z) with z | z
    · rw [z] at h
      exact absurd (Nat.lt_of_lt_of_le I.lt h) (Nat.lt_irrefl _)
    · exact I.nofs h z
  have un : Un (frs X.stack) fp H (upd H P (.tbl (ps ++ more))) s.heap h5 := by
    refine ⟨fun b o e n _ _ => kp b o (nN b n) e, fun b o e n _ _ => ⟨o.slots, kp b o (nN b n) e⟩, fun b o e n _ => by rw [at_ b (nN b n)]; exact n, fun b o e _ => ?_, fun b xs e => ?_, fun b o u e => ?_, fun b qs e => ?_⟩
    · by_cases hb : b = P
      · rw [hb]
        exact ⟨_, hp5⟩
      · exact ⟨o, kp b o hb e⟩
    · rw [at_ b (fun z => by rw [z, hP] at e; cases e)]
      exact e
    · rw [at_ b (fun z => by rw [z, hP] at e; cases e)]
      exact e
    · by_cases hb : b = P
      · rw [hb, hP] at e
        cases e
        rw [hb, upd_same]
        exact ⟨more, rfl⟩
      · rw [at_ b hb, e]
        exact ⟨#[], by simp⟩
  have cm : ∀ {y c}, (cloFrom X.env.cells scope.names []).lookup y = some c → X.env.cells.lookup y = some c := fun {y c} e => by
    rcases cloFrom_mem (PySem.mem_of_lookup e) with hm | ⟨h1, h2⟩
    · cases hm
    · obtain ⟨c1, hc⟩ := hfree _ h1 rfl
      have hc : X.env.cells.lookup y = some c1 := hc
      have e2 : c = c1 := by
        rw [h2, hc] <;> rfl
      rw [e2]
      exact hc
  have look : ∀ {y}, scope.names.lookup y = some .free → ∃ c, (cloFrom X.env.cells scope.names []).lookup y = some c := fun {y} hl => by
    have hy : (y, NameKind.free) ∈ scope.names := PySem.mem_of_lookup hl
    exact mem_lookup (cloFrom_has (cells := X.env.cells) (acc := []) hy)
  have cellK : ∀ {c : Addr} {v : Option Value}, H c = none → s.heap.IsCell c v → h5.IsCell c v := fun {c v} n ⟨o, ho, hd⟩ => ⟨o, kp _ _ (nN c n) ho, hd⟩
  refine ⟨⟨e0.mod, L.kind, ?_, hbi, hC, fun y z c e1 e2 => I.ok.inj y z c (cm e1) (cm e2), fun y hy => ?_, fun y c z _ => ?_, fun _ => hd, hfr, .inr ⟨rfl, rfl⟩, fun b z => ⟨?_, fun y c e => ?_⟩, e0.bs, e0.bsz, fun b o e z => ?_,
      fun b z => ?_, e0.funs, e0.frf⟩,
    rfl, hb, un, ⟨_, hns, fun i y v e1 e2 e3 => ?_⟩, fun y c e => ?_, frN hC, fun y c e => ?_, fun q hq => ?_, J.hok, (cp σ I.len).1⟩
  · exact I.ok.glob
  · rcases hy with hy | hy
    · exact absurd rfl (L.cell _ (PySem.mem_of_lookup (show scope.names.lookup y = some .cell from hy)))
    · exact look hy
  · have z : false = true := z
    cases z
  · have := (hf b z).2
    exact Nat.ne_of_lt (Nat.lt_of_lt_of_le this hC)
  · exact (hf b z).1.2.2.2.2.1 y c (cm e)
  · obtain ⟨⟨_, _, _, w, _⟩, _⟩ := hf b z
    rcases w with w | w
    · exact I.ok.noex b o e w
    · exact absurd (Nat.lt_of_lt_of_le (Heap.lt_size e) (Nat.le_trans I.ok.bsz w)) (Nat.lt_irrefl _)
  · intro w
    rcases List.mem_cons.mp (I.stkSub b w) with w | w
    · exact (hf b z).1.2.1 w
    · exact (hf b z).1.2.2.1 w
  · obtain ⟨f1, j, f2, f3⟩ := (cp σ I.len).2 i y v e1 e2
    obtain ⟨m', hn, hl⟩ := I.loc
    have hvis : Vis X.env.scope y := (L.free _ (PySem.mem_of_lookup f1) rfl).elim (fun k => .inr (.inl k)) (fun k => .inr (.inr k))
    obtain ⟨w', r, q⟩ := hl j y v f2 f3 hvis
    obtain ⟨c2, h2⟩ := look f1
    refine ⟨w', r, .inr ⟨.inr f1, c2, h2, ?_⟩⟩
    have c1 := cm h2
    rcases q with ⟨k', _⟩ | ⟨_, c3, e', z⟩
    · have k' : X.env.scope.names.lookup y = some .local := k'
      rcases L.free _ (PySem.mem_of_lookup f1) rfl with k2 | k2 <;> rw [show X.env.scope.names.lookup y = _ from k2] at k' <;> cases k'
    · rw [c1] at e'
      cases e'
      exact cellK (I.freeC y _ c1) z
  · obtain ⟨w', z⟩ := I.cell y c (cm e)
    exact ⟨w', cellK (I.freeC y c (cm e)) z⟩
  · have n := I.freeC y c (cm e)
    rw [at_ c (nN c n)]
    exact n
  · obtain rfl : q = (a, oa) := by simpa using (show q ∈ ([] : List (Addr × Obj)) ++ [(a, oa)] from hq)
    exact ⟨hoa, frN ha, hac, frS ha, hda⟩
end
end Gr

set_option Elab.async false
set_option maxRecDepth 100000
set_option maxHeartbeats 4000000
set_option linter.all false
/-! Ours: all(..), any(..) of a generator expression whose element may do what a def may do. -/
namespace Gr
open PySem PySem.Spec PyProof.Rows L2 GxR GenW
section
variable {X : Cx} {pins : List (Addr × Obj)} {σ : L2.St} {H : Hp} {s : Shared}
/-- the generator a, ready to be walked: n items, item i is tr i; R: what each turn leaves -/
def ReadyX (X : Cx) (pins : List (Addr × Obj)) (σ : L2.St) (tg elt : Expr) (n : Nat) (tr : Nat → Bool) (R : Nat → L2.St → Hp → Prop) (a : Addr) (s5 : Shared) : Prop :=
  ∃ (A0 : Around) (cenv : Env) (it : Addr) (g : Nat) (W : Nat → Shared → Prop) (D : Shared → Prop), GTurn X.prog X.w A0 cenv tg elt it a g n (BlK tr) W D ∧ GenK X.prog X.w X.A.in1 g n (BlK tr) W D 0 s5 ∧
    ∀ s', D s' → ∃ j σ' H', j ≤ n ∧ Inv X pins σ H' s' ∧ R j σ' H'
/-- what is asked of the walk -/
def GxW (P : Addr) (cap : L2.St → L2.St) (J : It) (g : TG) (te : TE) (n : Nat) (tr : Nat → Bool) (R : Nat → L2.St → Hp → Prop) (σ : L2.St) (H1 : Hp) : Prop :=
  TabG H1 P ∧ (∀ H2, Tabbed P H1 H2 → R 0 (cap σ) H2) ∧ (∀ i σ' H', i < n → R i σ' H' → J.go i H' ∧ ∀ x H5, J.yld i H' x H5 → g x σ' H5 fun σ6 H6 => te σ6 H6 fun y H7 => y = .bl (tr i) ∧ R (i + 1) σ6 H7) ∧ ∀ σ' H', R n σ' H' → J.stop n H'
theorem genX {c P : Addr} {elt tg iter : Expr} {gpos : Pos} {scope : Scope} {N' : List Str} {cap : L2.St → L2.St} {wi : TI} {g : TG} {te : TE} {k : Nat} {W : Value → Shared → Prop} {U : Nat → (Nat → Bool) → (Nat → L2.St → Hp → Prop) → Prop}
    (hr : Room (k + 1) X.A) (TB : TabB X.base X.mg c P) (hcode : X.env.code = .ref c) (S : GxS X.env.scope scope) (cp : CapOk X.N scope N' cap) (hi : PI X tg iter wi)
    (hg : ∀ (A0 : Around) (s1 : Shared) (H1 : Hp) (C : Addr) (code : Value) (fp : List Addr), Room k A0 → PG (gxCx X A0 s1 H1 N' (gxEnv X scope C code builtinsNs) fp) tg g)
    (hel : ∀ (A0 : Around) (s1 : Shared) (H1 : Hp) (C : Addr) (code : Value) (fp : List Addr), Room k A0 → PE (gxCx X A0 s1 H1 N' (gxEnv X scope C code builtinsNs) fp) elt te)
    (hs : ∀ v, genFold iter X.env v = pure v) (I : Inv X pins σ H s) (h : wi σ H fun J H1 => ∃ n tr R, GxW P cap J g te n tr R σ H1 ∧ U n tr R)
    (hQ : ∀ n tr R a z, U n tr R → ReadyX X pins σ tg elt n tr R a z → W (.ref a) z) :
    wpAny (model X.prog X.w) X.A (eval (.GeneratorExp elt [⟨tg, iter, [], 0⟩] scope gpos) X.env) W X.xe s := by
  refine wpAny_GeneratorExp_make S.co (closure_ok (S.has I.ok)) S.cell S.dot S.kind hr.depth (thn (hi.run pins s σ H _ I h) fun xv s1 h1 => thn h1 ?_) hs
  rintro itv s2 ⟨it, fp, tn, J, H2, rfl, I2, T, st2, f2, n, tr, R, ⟨⟨ps, hP, ht⟩, w0, wt, we⟩, u⟩
  refine ⟨I2.nolimit, code_then0 I2 TB hcode hP ht fun cv h4 tk more up le hp4 ht' lim => ?_⟩
  intro h' hn' hs'
  have p0 : s2.heap.get? P = some { cls := .none, data := .fields ps } := I2.hok P _ hP
  have hsz : h'.objs.size = h4.objs.size + 1 := by
    rw [hs'.1]
    exact Heap.size_push ..
  have keep' : ∀ b o, h4.get? b = some o → h'.get? b = some o := fun b o e => hs'.extBut b o (Nat.ne_of_lt (Heap.lt_size e)) (Heap.get?_push_of_some _ e)
  have lf : ∀ b ∈ fp, b < s2.heap.objs.size := fun b hb => let ⟨_, e, _⟩ := T.obj 0 _ st2 b hb; Heap.lt_size e
  let loop := loopC tg elt iter scope gpos it (gxEnv X scope h4.objs.size cv builtinsNs)
  let A0 : Around := X.A.in1.in1.over loop []
  let oa : Obj := { cls := .type "generator", data := .fields #[.int s2.gens.size 0, .str "<genexpr>" (tk + 1), .str (X.env.qual ++ "<genexpr>") (tk + 1 + 1)] }
  have room : Room k A0 := by
    refine ⟨hr.hd, ?_, ?_⟩
    · have := hr.dp
      show X.A.depth + 0 + 1 + 3 * k + 5 < _
      omega
    · have := hr.un
      show X.A.units + 1 + 1 + 0 + 3 * 1 + 16 * k + 200 < _
      omega
  have hfr : A0.frames = some (gxEnv X scope h4.objs.size cv builtinsNs :: X.stack) := by
    have e : A0.frames = pushEnvs loop.envs (pushEnvs (envsOf []) X.A.frames) := rfl
    rw [e, I2.ok.frames]
    rfl
  have ha : s2.heap.objs.size ≤ h'.objs.size := by
    rw [hsz]
    exact Nat.le_succ_of_le le
  have hac : h'.objs.size ≠ h4.objs.size := by
    rw [hsz]
    exact Nat.succ_ne_self _
  have I5 : Inv (gxCx X A0 s2 H2 N' (gxEnv X scope h4.objs.size cv builtinsNs) fp) [(h'.objs.size, oa)] (cap σ) (upd H2 P (.tbl (ps ++ more)))
      { s2 with heap := h'.push oa, gens := s2.gens.push (.fresh (firstC tg elt iter scope gpos it (gxEnv X scope h4.objs.size cv builtinsNs))), toks := tk + 1 + 1 + 1 } := by
    refine gx_start (m := fun y => if y = ".0" then some (.ref it) else none) (d5 := s2.drawn) I2 S cp rfl hr.hd hfr hP (fun b o nb e => Heap.get?_push_of_some _ (keep' b o (up b o nb e))) (Heap.get?_push_of_some _ (keep' _ _ hp4)) (I2.bare.push rfl) (hn'.push _) le ha hac (Heap.get?_push_size _ rfl) (fun v z => nomatch z) fun b hb => ⟨f2 b hb, lf b hb⟩
  have fpok : ∀ {H' : Hp}, (∀ b ∈ fp, H' b = none) → ∀ b ∈ fp, FpOk (gxCx X A0 s2 H2 N' (gxEnv X scope h4.objs.size cv builtinsNs) fp) [(h'.objs.size, oa)] H' b := fun {H'} hn b hb => by
    have l := lf b hb
    refine ⟨hn b hb, (I5.ok.exf b hb).1, I5.ok.exfs b hb, .inl hb, fun x c e => (I5.ok.exf b hb).2 x c e, fun p hp => ?_⟩
    obtain rfl : p = (h'.objs.size, oa) := by simpa using (show p ∈ ([] : List (Addr × Obj)) ++ [(h'.objs.size, oa)] from hp)
    exact fun z => absurd (Nat.lt_of_lt_of_le l ha) (by rw [show h'.objs.size = b from z]; exact Nat.lt_irrefl _)
  have tn5 : tn 0 (h'.push oa) := T.keep 0 _ _ st2 fun b hb o e => Heap.get?_push_of_some _ (keep' b o (up b o (fun z => by
    have := (f2 b hb).1
    rw [z, hP] at this
    cases this) e))
  let Wn : Nat → Shared → Prop := fun i z => ∃ σ' H', Inv (gxCx X A0 s2 H2 N' (gxEnv X scope h4.objs.size cv builtinsNs) fp) [(h'.objs.size, oa)] σ' H' z ∧ tn i z.heap ∧ (∀ b ∈ fp, H' b = none) ∧ R i σ' H'
  let Dn : Shared → Prop := fun z => ∃ j σ' H', j ≤ n ∧ Inv (gxCx X A0 s2 H2 N' (gxEnv X scope h4.objs.size cv builtinsNs) fp) [(h'.objs.size, oa)] σ' H' z ∧ R j σ' H'
  have slpI : ∀ {σ' : L2.St} {H' : Hp} {z z' : Shared}, Inv (gxCx X A0 s2 H2 N' (gxEnv X scope h4.objs.size cv builtinsNs) fp) [(h'.objs.size, oa)] σ' H' z → Slp z z' → Inv (gxCx X A0 s2 H2 N' (gxEnv X scope h4.objs.size cv builtinsNs) fp) [(h'.objs.size, oa)] σ' H' z' := fun {σ' H' z z'} J q => by
    have K := J.call (h' := z'.heap) (g' := z'.gens) (d' := z'.drawn) (t' := z'.toks) (ch := []) (Un.kept q.keep) (J.hok.kept q.keep) q.bare (fun b y => absurd y (by simp))
    rw [sh_eta z z' q.os] at K
    exact K
  have GT : GTurn X.prog X.w A0 (gxEnv X scope h4.objs.size cv builtinsNs) tg elt it h'.objs.size s2.gens.size n (BlK tr) Wn Dn := by
    refine ⟨?_, ?_, ?_, ?_, ?_, ?_, ?_, ?_, ?_⟩
    · rintro i z z' ⟨σ', H', J, t, f, r⟩ q
      exact ⟨σ', H', slpI J q, T.keep i _ _ t fun b _ o e => q.keep b o e, f, r⟩
    · rintro z z' ⟨j, σ', H', hj, J, r⟩ q
      exact ⟨j, σ', H', hj, slpI J q, r⟩
    · rintro i z hi ⟨σ', H', J, t, f, r⟩
      exact ⟨i, σ', H', hi, J, r⟩
    · rintro z ⟨j, σ', H', hj, J, r⟩
      exact J.bare
    · rintro z ⟨j, σ', H', hj, J, r⟩
      exact J.nolimit
    · rintro z ⟨j, σ', H', hj, J, r⟩
      have q := (J.pin (h'.objs.size, oa) (List.mem_append_right _ (List.mem_singleton.mpr rfl))).1
      exact ⟨oa, _, _, q, rfl, rfl, rfl⟩
    · rintro B' E z ⟨σ', H', J, t, f, r⟩
      exact T.self B' 0 z _ E t ⟨rfl, σ', H', J, t, f, r⟩
    · rintro E i z hi ⟨σ', H', J, t, f, r⟩
      obtain ⟨go, step⟩ := wt i σ' H' hi r
      refine wpAny_mono (T.item (gxCx X A0 s2 H2 N' (gxEnv X scope h4.objs.size cv builtinsNs) fp) rfl rfl rfl rfl i _ z σ' H' E J (fpok f) t go) ?_ fun _ _ e => e
      rintro q s4 ⟨u', rfl, h4'⟩
      refine ⟨u', rfl, wpAny_mono h4' ?_ fun _ _ e => e⟩
      rintro _ s5 ⟨x, H5, J5, r5, y5, st5, fr5⟩
      have J5' := J5.pinned (fpok fr5) (T.obj _ _ st5)
      refine wpAny_mono ((hg A0 s2 H2 h4.objs.size cv fp room).run _ s5 σ' H5 x u' _ J5' r5 (step x H5 y5)) ?_ fun _ _ e => e.elim
      rintro _ s6 ⟨σ6, H6, J6, q6⟩
      refine wpAny_mono ((hel A0 s2 H2 h4.objs.size cv fp room).run _ s6 σ6 H6 _ J6 q6) ?_ fun _ _ e => e.elim
      rintro y s7 ⟨v7, H7, J7, r7, e7, n7⟩
      rw [e7] at r7
      refine ⟨r7, σ6, H7, J7.unpinned, T.keep _ _ _ st5 fun b hb o e => (J7.pin (b, o) (List.mem_append_right _ (List.mem_append_right _ (mem_pinsAt hb e)))).1, fun b hb => ?_, n7⟩
      obtain ⟨o, e, d⟩ := T.obj _ _ st5 b hb
      exact (J7.pin (b, o) (List.mem_append_right _ (List.mem_append_right _ (mem_pinsAt hb e)))).2.1
    · rintro E z ⟨σ', H', J, t, f, r⟩
      refine wpAny_mono (T.done (gxCx X A0 s2 H2 N' (gxEnv X scope h4.objs.size cv builtinsNs) fp) rfl rfl rfl rfl n _ z σ' H' E J (fpok f) t (we σ' H' r)) ?_ fun _ _ e => e
      rintro q s4 ⟨rfl, J4⟩
      exact ⟨rfl, n, σ', H', Nat.le_refl _, J4, r⟩
  have w5 : Wn 0 { s2 with heap := h'.push oa, gens := s2.gens.push (.fresh (firstC tg elt iter scope gpos it (gxEnv X scope h4.objs.size cv builtinsNs))), toks := tk + 1 + 1 + 1 } := by
    refine ⟨cap σ, _, I5, tn5, fun b hb => ?_, w0 _ ⟨⟨_, upd_same, ht'⟩, fun b hb => upd_ne hb⟩⟩
    have := (f2 b hb).1
    rw [upd_ne fun z => ?_]
    · exact this
    · rw [z, hP] at this
      cases this
  refine hQ n tr R _ _ u ⟨A0, _, it, s2.gens.size, Wn, Dn, GT, ⟨w5, .fresh (firstC tg elt iter scope gpos it (gxEnv X scope h4.objs.size cv builtinsNs)), ?_, fun s'' q => ?_⟩, ?_⟩
  · exact Array.getElem?_push_size ..
  · exact ⟨rfl, segK0 S.co GT s'' s'' (GT.slp 0 _ _ w5 q)⟩
  · rintro z ⟨j, σ', H', hj, J, r⟩
    refine ⟨j, σ', H', hj, ?_, r⟩
    have K := I2.call (h' := z.heap) (g' := z.gens) (d' := z.drawn) (t' := z.toks) (ch := fp) J.base J.hok J.bare fun b hb => ?_
    · rw [sh_eta s2 z J.os] at K
      exact K
    · obtain ⟨_, f1, _, f3, f4, f5⟩ := f2 b hb
      exact ⟨f3, f1, f4, f5⟩
def tAllX (P : Addr) (cap : L2.St → L2.St) (wi : TI) (g : TG) (te : TE) : TE := fun σ H Q => wi σ H fun J H1 => ∃ n tr R, GxW P cap J g te n tr R σ H1 ∧ ∀ i σ' H', i ≤ n → R i σ' H' → Q (.bl ((List.range n).all tr)) H'
def tAnyX (P : Addr) (cap : L2.St → L2.St) (wi : TI) (g : TG) (te : TE) : TE := fun σ H Q => wi σ H fun J H1 => ∃ n tr R, GxW P cap J g te n tr R σ H1 ∧ ∀ i σ' H', i ≤ n → R i σ' H' → Q (.bl ((List.range n).any tr)) H'
theorem pe_allX {c P : Addr} {elt tg iter : Expr} {p pos gpos : Pos} {scope : Scope} {N' : List Str} {cap : L2.St → L2.St} {wi : TI} {g : TG} {te : TE} {k : Nat}
    (hr : Room (k + 1) X.A) (hgl : Gl X "all") (hm : X.mg "all" = none) (TB : TabB X.base X.mg c P) (hcode : X.env.code = .ref c) (S : GxS X.env.scope scope) (cp : CapOk X.N scope N' cap) (hi : PI X tg iter wi)
    (hg : ∀ (A0 : Around) (s1 : Shared) (H1 : Hp) (C : Addr) (code : Value) (fp : List Addr), Room k A0 → PG (gxCx X A0 s1 H1 N' (gxEnv X scope C code builtinsNs) fp) tg g)
    (hel : ∀ (A0 : Around) (s1 : Shared) (H1 : Hp) (C : Addr) (code : Value) (fp : List Addr), Room k A0 → PE (gxCx X A0 s1 H1 N' (gxEnv X scope C code builtinsNs) fp) elt te)
    (hs : ∀ v, genFold iter X.env v = pure v)
    (he : starEach [.GeneratorExp elt [⟨tg, iter, [], 0⟩] scope gpos] X.env = (false, eval (.GeneratorExp elt [⟨tg, iter, [], 0⟩] scope gpos) X.env) :: starEach [] X.env := by rfl) :
    PE X (.Call (.Name "all" p) [.GeneratorExp elt [⟨tg, iter, [], 0⟩] scope gpos] [] pos) (tAllX P cap wi g te) := by
  refine ⟨fun pins s σ H Q I h => wpAny_Call_Name_kw (ld_blt I hgl hm boot_all (PyProof.Rows.callWith_builtin1 ?_ he (by rfl)))⟩
  rw [he]
  show wpAny _ _ (spliced ((false, eval (.GeneratorExp elt [⟨tg, iter, [], 0⟩] scope gpos) X.env) :: backTo pos (starEach [] X.env))) _ _ s
  refine Calls.spliced_cons (genX (U := fun n tr R => ∀ i σ' H', i ≤ n → R i σ' H' → Q (.bl ((List.range n).all tr)) H') hr TB hcode S cp hi hg hel hs I h ?_)
  rintro n tr R a z hU ⟨A0, cenv, it, g', W, D, GT, hst, hD⟩
  refine Calls.spliced_nil (call_allK GT hr.hd hr.depth hst fun s' hd => ?_)
  obtain ⟨j, σ', H', hj, J, r⟩ := hD s' hd
  exact ⟨.bl _, H', J, rfl, hU j σ' H' hj r⟩
theorem pe_anyX {c P : Addr} {elt tg iter : Expr} {p pos gpos : Pos} {scope : Scope} {N' : List Str} {cap : L2.St → L2.St} {wi : TI} {g : TG} {te : TE} {k : Nat}
    (hr : Room (k + 1) X.A) (hgl : Gl X "any") (hm : X.mg "any" = none) (TB : TabB X.base X.mg c P) (hcode : X.env.code = .ref c) (S : GxS X.env.scope scope) (cp : CapOk X.N scope N' cap) (hi : PI X tg iter wi)
    (hg : ∀ (A0 : Around) (s1 : Shared) (H1 : Hp) (C : Addr) (code : Value) (fp : List Addr), Room k A0 → PG (gxCx X A0 s1 H1 N' (gxEnv X scope C code builtinsNs) fp) tg g)
    (hel : ∀ (A0 : Around) (s1 : Shared) (H1 : Hp) (C : Addr) (code : Value) (fp : List Addr), Room k A0 → PE (gxCx X A0 s1 H1 N' (gxEnv X scope C code builtinsNs) fp) elt te)
    (hs : ∀ v, genFold iter X.env v = pure v)
    (he : starEach [.GeneratorExp elt [⟨tg, iter, [], 0⟩] scope gpos] X.env = (false, eval (.GeneratorExp elt [⟨tg, iter, [], 0⟩] scope gpos) X.env) :: starEach [] X.env := by rfl) :
    PE X (.Call (.Name "any" p) [.GeneratorExp elt [⟨tg, iter, [], 0⟩] scope gpos] [] pos) (tAnyX P cap wi g te) := by
  refine ⟨fun pins s σ H Q I h => wpAny_Call_Name_kw (ld_blt I hgl hm boot_any (PyProof.Rows.callWith_builtin1 ?_ he (by rfl)))⟩
  rw [he]
  show wpAny _ _ (spliced ((false, eval (.GeneratorExp elt [⟨tg, iter, [], 0⟩] scope gpos) X.env) :: backTo pos (starEach [] X.env))) _ _ s
  refine Calls.spliced_cons (genX (U := fun n tr R => ∀ i σ' H', i ≤ n → R i σ' H' → Q (.bl ((List.range n).any tr)) H') hr TB hcode S cp hi hg hel hs I h ?_)
  rintro n tr R a z hU ⟨A0, cenv, it, g', W, D, GT, hst, hD⟩
  refine Calls.spliced_nil (call_anyK GT hr.hd hr.depth hst fun s' hd => ?_)
  obtain ⟨j, σ', H', hj, J, r⟩ := hD s' hd
  exact ⟨.bl _, H', J, rfl, hU j σ' H' hj r⟩
end
end Gr

set_option linter.all false
/-! Ours: the mathematics of patterns: a table of truths by rows, by columns; places as bits of a number. -/
namespace PM
/-- one row more: the sign c of the body, star or not; r the string, p the row ahead -/
def nrow (star : Bool) (c : Option Nat) (r : List Nat) (p : Nat → Bool) : Nat → Bool
  | 0 => p 0 && star
  | k + 1 => if star then p (k + 1) || nrow star c r p k else p k && (c == r[k]?)
def isSt (b : List Nat) (i : Nat) : Bool := b[i]? == some 42
/-- the first i signs of b fit the first k of r -/
def F (b r : List Nat) : Nat → Nat → Bool
  | 0 => fun k => k == 0
  | i + 1 => nrow (isSt b i) b[i]? r (F b r i)
theorem F_zero (b r : List Nat) (k : Nat) : F b r 0 k = (k == 0) := rfl
theorem F_succ_zero (b r : List Nat) (i : Nat) : F b r (i + 1) 0 = (F b r i 0 && isSt b i) := rfl
theorem F_succ (b r : List Nat) (i k : Nat) : F b r (i + 1) (k + 1) = if isSt b i then F b r i (k + 1) || F b r (i + 1) k else F b r i k && (b[i]? == r[k]?) := rfl

/-- a body that begins with a sign fits nothing at the empty string -/
theorem F_begin {b : List Nat} (r : List Nat) (h : isSt b 0 = false) : ∀ i, F b r i 0 = (i == 0)
  | 0 => rfl
  | 1 => by rw [F_succ_zero, h]; cases F b r 0 0 <;> rfl
  | i + 2 => by
    rw [F_succ_zero, F_begin r h (i + 1)]
    rfl

/-- only the first k signs of the string matter -/
theorem F_local {b r r' : List Nat} : ∀ (i k : Nat), (∀ j, j < k → r[j]? = r'[j]?) → F b r i k = F b r' i k
  | 0, k, _ => rfl
  | i + 1, 0, h => by rw [F_succ_zero, F_succ_zero, F_local i 0 h]
  | i + 1, k + 1, h => by
    have h' : ∀ j, j < k → r[j]? = r'[j]? := fun j hj => h j (Nat.lt_succ_of_lt hj)
    rw [F_succ, F_succ, F_local i (k + 1) h, F_local (i + 1) k h', F_local i k h', h k (Nat.lt_succ_self k)]
/-- only the first i signs of the body matter -/
theorem F_body {b b' r : List Nat} : ∀ (i k : Nat), (∀ j, j < i → b[j]? = b'[j]?) → F b r i k = F b' r i k
  | 0, k, _ => rfl
  | i + 1, 0, h => by
    rw [F_succ_zero, F_succ_zero, F_body i 0 (fun j hj => h j (Nat.lt_succ_of_lt hj))]
    unfold isSt
    rw [h i (Nat.lt_succ_self i)]
  | i + 1, k + 1, h => by
    have h' : ∀ j, j < i → b[j]? = b'[j]? := fun j hj => h j (Nat.lt_succ_of_lt hj)
    rw [F_succ, F_succ, F_body i (k + 1) h', F_body (i + 1) k h, F_body i k h']
    unfold isSt
    rw [h i (Nat.lt_succ_self i)]
/-- a star at the end takes one sign more -/
theorem F_star {b r : List Nat} {i k : Nat} (h : isSt b i = true) (f : F b r (i + 1) k = true) : F b r (i + 1) (k + 1) = true := by
  rw [F_succ, if_pos h, f, Bool.or_true]
theorem F_stars {b r : List Nat} {i k : Nat} (h : isSt b i = true) (f : F b r (i + 1) k = true) : ∀ n, F b r (i + 1) (k + n) = true
  | 0 => f
  | n + 1 => F_star h (F_stars h f n)
/-- without stars just the string itself is fitted -/
theorem F_plain {b r : List Nat} (h : ∀ i, isSt b i = false) : ∀ i k, i ≤ b.length → k ≤ r.length → (F b r i k = true ↔ b.take i = r.take k)
  | 0, 0, _, _ => by simp [F]
  | 0, k + 1, _, hk => by
    rw [F_zero]
    constructor
    · intro e
      cases e
    · intro e
      have := congrArg List.length e
      rw [List.length_take, List.length_take] at this
      omega
  | i + 1, 0, hi, _ => by
    rw [F_succ_zero, h i, Bool.and_false]
    constructor
    · intro e
      cases e
    · intro e
      have := congrArg List.length e
      rw [List.length_take, List.length_take] at this
      omega
  | i + 1, k + 1, hi, hk => by
    have hi' : i < b.length := hi
    have hk' : k < r.length := hk
    rw [F_succ, h i, if_neg Bool.false_ne_true, Bool.and_eq_true, F_plain h i k (Nat.le_of_lt hi') (Nat.le_of_lt hk'), List.getElem?_eq_getElem hi', List.getElem?_eq_getElem hk',
      beq_iff_eq, Option.some_inj, List.take_succ_eq_append_getElem hi', List.take_succ_eq_append_getElem hk']
    constructor
    · rintro ⟨e1, e2⟩
      rw [e1, e2]
    · intro e
      have el : (b.take i).length = (r.take k).length := by
        have := congrArg List.length e
        rw [List.length_append, List.length_append] at this
        simpa using this
      obtain ⟨e1, e2⟩ := List.append_inj e el
      exact ⟨e1, by simpa using e2⟩

/-! ### numbers as sets of places -/
def bits (f : Nat → Bool) : Nat → Nat
  | 0 => 0
  | n + 1 => bits f n ||| (if f n then 2 ^ n else 0)
theorem testBit_pow (n i : Nat) : (2 ^ n).testBit i = decide (n = i) := Nat.testBit_two_pow ..
theorem bits_test (f : Nat → Bool) : ∀ n i, (bits f n).testBit i = (decide (i < n) && f i)
  | 0, i => by simp [bits]
  | n + 1, i => by
    unfold bits
    rw [Nat.testBit_or, bits_test f n i]
    by_cases hi : i = n
    · subst hi
      cases hf : f i <;> simp [testBit_pow]
    · have h1 : decide (i < n + 1) = decide (i < n) := by
        apply decide_eq_decide.mpr
        omega
      rw [h1]
      cases hf : f n
      · simp
      · have : ¬ n = i := fun e => hi e.symm
        simp [testBit_pow, this]
theorem bits_lt (f : Nat → Bool) (n : Nat) : bits f n < 2 ^ n := by
  induction n with
  | zero => exact Nat.zero_lt_one
  | succ n ih =>
    unfold bits
    refine Nat.or_lt_two_pow (Nat.lt_trans ih (Nat.pow_lt_pow_right (by decide) (Nat.lt_succ_self n))) ?_
    cases f n
    · exact Nat.two_pow_pos _
    · exact Nat.pow_lt_pow_right (by decide) (Nat.lt_succ_self n)
theorem eq_of_test {a b : Nat} (h : ∀ i, a.testBit i = b.testBit i) : a = b := Nat.eq_of_testBit_eq h
theorem lt_of_test {a n : Nat} (h : ∀ i, n ≤ i → a.testBit i = false) : a < 2 ^ n := Nat.lt_pow_two_of_testBit a h

/-- the body's stars; those places kept by any sign; the places that a sign leads on from -/
def starsOf (b : List Nat) (n : Nat) : Nat := bits (isSt b) n
def heldOf (b : List Nat) (n : Nat) : Nat := bits (isSt b) n * 2
def moveOf (b : List Nat) (c : Nat) (n : Nat) : Nat := bits (fun i => !isSt b i && (b[i]? == some c)) n

theorem mul2_test (a i : Nat) : (a * 2).testBit i = (decide (0 < i) && a.testBit (i - 1)) := by
  have := Nat.testBit_mul_two_pow a i 1
  rw [Nat.pow_one] at this
  rw [this]
  rfl
theorem mul2_or (a b : Nat) : (a ||| b) * 2 = a * 2 ||| b * 2 := by
  refine eq_of_test fun i => ?_
  rw [mul2_test, Nat.testBit_or, Nat.testBit_or, mul2_test, mul2_test]
  cases decide (0 < i) <;> simp

/-- one turn of the closing -/
def grow (st s : Nat) : Nat := s ||| (s &&& st) * 2
theorem grow_test (st s i : Nat) : (grow st s).testBit i = (s.testBit i || (decide (0 < i) && (s.testBit (i - 1) && st.testBit (i - 1)))) := by
  unfold grow
  rw [Nat.testBit_or, mul2_test, Nat.testBit_and]
/-- what closing comes to -/
def clo (st s : Nat → Bool) : Nat → Bool
  | 0 => s 0
  | i + 1 => s (i + 1) || (clo st s i && st i)
theorem clo_of {st s c : Nat} {s0 : Nat → Bool} (h0 : ∀ i, s0 i = true → s.testBit i = true) (h1 : ∀ i, s.testBit i = true → clo (st.testBit ·) s0 i = true) (hf : grow st s = s) :
    ∀ i, s.testBit i = clo (st.testBit ·) s0 i
  | 0 => by
    rw [Bool.eq_iff_iff]
    exact ⟨h1 0, fun e => h0 0 e⟩
  | i + 1 => by
    rw [Bool.eq_iff_iff]
    refine ⟨h1 _, fun e => ?_⟩
    unfold clo at e
    rw [Bool.or_eq_true] at e
    rcases e with e | e
    · exact h0 _ e
    · rw [← clo_of (c := c) h0 h1 hf i] at e
      rw [← hf, grow_test]
      simp only [Nat.succ_sub_one, Nat.zero_lt_succ, decide_true, Bool.true_and]
      rw [e, Bool.or_true]
theorem grow_sub {st s : Nat} {s0 : Nat → Bool} (h1 : ∀ i, s.testBit i = true → clo (st.testBit ·) s0 i = true) : ∀ i, (grow st s).testBit i = true → clo (st.testBit ·) s0 i = true := by
  intro i e
  rw [grow_test, Bool.or_eq_true] at e
  rcases e with e | e
  · exact h1 i e
  · cases i with
    | zero => cases e
    | succ i =>
      simp only [Nat.succ_sub_one, Nat.zero_lt_succ, decide_true, Bool.true_and, Bool.and_eq_true] at e
      unfold clo
      rw [h1 i e.1, e.2]
      simp
theorem grow_ge (st s : Nat) : s ≤ grow st s := Nat.left_le_or
theorem grow_keeps {st s : Nat} {i : Nat} (h : s.testBit i = true) : (grow st s).testBit i = true := by
  rw [grow_test, h]
  rfl
theorem grow_lt {st s n : Nat} (hs : s < 2 ^ (n + 1)) (ht : st < 2 ^ n) : grow st s < 2 ^ (n + 1) := by
  unfold grow
  refine Nat.or_lt_two_pow hs ?_
  have h1 : s &&& st < 2 ^ n := Nat.lt_of_le_of_lt Nat.and_le_right ht
  rw [Nat.pow_succ]
  omega

/-- a step: the bits ahead of closing -/
def stepped (b : List Nat) (n s c : Nat) : Nat := (s &&& moveOf b c n) * 2 ||| (s &&& heldOf b n)
theorem stepped_test (b : List Nat) (n s c i : Nat) : (stepped b n s c).testBit i = (decide (0 < i) && ((s.testBit (i - 1) && (moveOf b c n).testBit (i - 1)) || (s.testBit i && (bits (isSt b) n).testBit (i - 1)))) := by
  unfold stepped heldOf
  rw [Nat.testBit_or, mul2_test, Nat.testBit_and, Nat.testBit_and, mul2_test]
  cases decide (0 < i) <;> simp
/-- the places at the first k signs, as a number -/
def Pl (b r : List Nat) (k s : Nat) : Prop := ∀ i, s.testBit i = (decide (i ≤ b.length) && F b r i k)
theorem clo_step {b r : List Nat} {k s c : Nat} (hs : Pl b r k s) (hc : r[k]? = some c) : ∀ i, clo ((starsOf b b.length).testBit ·) ((stepped b b.length s c).testBit ·) i = (decide (i ≤ b.length) && F b r i (k + 1))
  | 0 => by
    unfold clo
    rw [stepped_test, F_zero]
    simp
  | i + 1 => by
    have sti : (starsOf b b.length).testBit i = isSt b i := by
      unfold starsOf
      rw [bits_test]
      by_cases hi : i < b.length
      · simp [hi]
      · unfold isSt
        rw [List.getElem?_eq_none (Nat.le_of_not_lt hi)]
        simp
    unfold clo
    rw [clo_step hs hc i, stepped_test, sti]
    simp only [Nat.succ_sub_one, Nat.zero_lt_succ, decide_true, Bool.true_and]
    rw [hs i, hs (i + 1)]
    unfold moveOf
    rw [bits_test, bits_test]
    by_cases hi : i < b.length
    · have h1 : decide (i ≤ b.length) = true := decide_eq_true (Nat.le_of_lt hi)
      have h2 : decide (i + 1 ≤ b.length) = true := decide_eq_true hi
      have h3 : decide (i < b.length) = true := decide_eq_true hi
      rw [h1, h2, h3, F_succ, hc]
      cases hst : isSt b i
      · simp
      · simp [Bool.or_comm]
    · have h2 : decide (i + 1 ≤ b.length) = false := decide_eq_false (by omega)
      have h3 : decide (i < b.length) = false := decide_eq_false hi
      have h4 : isSt b i = false := by
        unfold isSt
        rw [List.getElem?_eq_none (Nat.le_of_not_lt hi)]
        rfl
      rw [h2, h3, h4]
      simp
end PM

set_option Elab.async false
set_option maxRecDepth 100000
set_option maxHeartbeats 4000000
set_option linter.all false
namespace KP
open PySem PySem.Spec PyProof.Rows L2 Gr GxR
def top (i : Nat) : Stmt := PySem.Challenge.pw_gentlerounds_k22_whole_groups_and_reason.main.body.getD i (.Pass ⟨0, 0, 0, 0⟩)
abbrev s_is_whole : Stmt := top 9
abbrev s_is_between : Stmt := top 10
abbrev s_is_tuple : Stmt := top 11
abbrev s_is_name : Stmt := top 16
abbrev s_is_path : Stmt := top 17
abbrev s_check_name : Stmt := top 18
abbrev s_check_path : Stmt := top 19
abbrev s_init : Stmt := inClass (top 21) 0
abbrev s__take : Stmt := inClass (top 21) 1
abbrev s__telling_signs : Stmt := inClass (top 21) 2
abbrev s__closed : Stmt := inClass (top 21) 3
abbrev s_step : Stmt := inClass (top 21) 4
abbrev s_begun : Stmt := inClass (top 21) 5
abbrev s_behind : Stmt := inClass (top 21) 6
abbrev s_places_of : Stmt := inClass (top 21) 7
abbrev s_standing_of : Stmt := inClass (top 21) 8
abbrev s_is_pattern : Stmt := top 25
abbrev s_check_pattern : Stmt := top 26
abbrev s_body_of : Stmt := top 27
abbrev s_is_path_row : Stmt := top 30
abbrev s_fault_in_paths : Stmt := top 31
abbrev s_are_paths : Stmt := top 32
abbrev s_check_paths : Stmt := top 33
abbrev s_machine_of : Stmt := top 34
abbrev s_ranked : Stmt := top 35
abbrev s_decided : Stmt := top 36
abbrev s_deciding : Stmt := top 37
abbrev s_is_let_by : Stmt := top 38
abbrev s_is_limit : Stmt := top 43
abbrev s_are_limits : Stmt := top 44
abbrev s_are_hours : Stmt := top 45
abbrev s_is_caller : Stmt := top 50
abbrev s_is_group : Stmt := top 51
abbrev s_fault_in_file : Stmt := top 52
abbrev s_check_file : Stmt := top 53
abbrev s_group_of : Stmt := top 54
abbrev s_paths_of : Stmt := top 55
abbrev s_rules_of : Stmt := top 56
abbrev s_is_let : Stmt := top 57
abbrev s_reason : Stmt := top 58
abbrev s_l_well : Stmt := top 60
abbrev s_l_pick : Stmt := top 61
abbrev s_l_one : Stmt := top 62
abbrev s_l_signs : Stmt := top 63
abbrev s_l_alphabet : Stmt := top 64
abbrev s_l_body : Stmt := top 65
abbrev s_l_fits : Stmt := top 66
abbrev s_l_meets : Stmt := top 67
abbrev s_l_some_pattern : Stmt := top 68
abbrev s_l_some_path : Stmt := top 69
abbrev s_l_some_rows : Stmt := top 70
abbrev s_l_decides : Stmt := top 71
abbrev s_l_bars : Stmt := top 72
abbrev s_l_some_limits : Stmt := top 73
abbrev s_l_some_hours : Stmt := top 74
abbrev s_l_some_name : Stmt := top 75
abbrev s_l_some_file : Stmt := top 76
abbrev s_l_group : Stmt := top 77
abbrev s_l_some_crawler : Stmt := top 78
abbrev s_l_one_right : Stmt := top 79
abbrev s_l_right : Stmt := top 80
abbrev s_law : Stmt := top 81
/-- a def whose code object stands at c -/
structure FunC (K : PySem.W.Frag) (x ql : Str) (st : Stmt) (f : Addr) (fd : FuncData) (c : Addr) : Prop where
  ex : ∃ (oc : Value) (od : Option Addr) (kV doc pm : Value) (an : Option Addr) (ct : Value) (osl : Array (Option Value)),
    fd = PySem.W.fnOf x ql (defArgs st) (defBody st) (defScope st) .none kV doc pm an (.ref c) ct ∧ K.lookup f = some ⟨oc, od, .func fd, osl⟩ ∧ PySem.W.codeIn K (.ref c) ql = true
  kp : PySem.W.keepIn K (.ref f) = true
theorem FunC.fun {K : PySem.W.Frag} {x ql : Str} {st : Stmt} {f : Addr} {fd : FuncData} {c : Addr} (F : FunC K x ql st f fd c) : Fun K x ql st f fd := by
  obtain ⟨⟨oc, od, kV, doc, pm, an, ct, osl, e1, e2, e3⟩, kp⟩ := F
  exact ⟨⟨oc, od, kV, doc, pm, an, .ref c, ct, osl, e1, e2, e3⟩, kp⟩
/-- such a def by its body; its code object is known there -/
theorem FunC.ok {P : Program} {w : World} {K : PySem.W.Frag} {mg : Str → Option Value} {base : Heap} {x ql : Str} {st : Stmt} {f c : Addr} {fd : FuncData} {N ps : List Str} {k : Nat} {sp : Sp} (F : FunC K x ql st f fd c) (S : FnScope N ps (defScope st)) (len : ∀ vs H Q E, sp vs H Q E → vs.length = ps.length)
    (hb : ∀ (A : Around) (outer : List Env) (s : Shared) (H : Hp) (vs : List V) (Q : VK) (E : XK), Room k (A.deeper (envOfC ql (defScope st) s.heap.objs.size f (.ref c))) → sp vs H Q E →
      ∃ t, PSs (cxOf CX0 P w K mg base N ql (defScope st) f (.ref c) A outer s H E).nox (defBody st) t ∧ t { nx := fun _ H' => Q .non H', rt := Q } (start N vs) H) : FnOk P w K mg base CX0 (k + 1) f fd ps sp := by
  obtain ⟨oc, od, kV, doc, pm, an, ct, osl, rfl, lk, hcd⟩ := F.ex
  refine fn_of lk hcd S len fun A outer s H vs Q E hr hsp => ?_
  obtain ⟨t, h, q⟩ := hb A outer s H vs Q E hr hsp
  exact ⟨t, h.nox, q⟩
/-- a def with defaults, by its body -/
theorem okN {P : Program} {w : World} {K : PySem.W.Frag} {mg : Str → Option Value} {base : Heap} {x qual : Str} {params : Arguments} {body : List Stmt} {scope : Scope} {dvs : List V} {kws : List (Str × V)} {f : Addr} {fd : FuncData} {N ps : List Str} {k : Nat} {sp : Sp} (F : FunD K x qual params body scope dvs kws f fd) (S : FnScope N ps scope) (len : ∀ vs H Q E, sp vs H Q E → vs.length = ps.length)
    (hb : ∀ (cdv : Value) (A : Around) (outer : List Env) (s : Shared) (H : Hp) (vs : List V) (Q : VK) (E : XK), Room k (A.deeper (envOfC qual scope s.heap.objs.size f cdv)) → sp vs H Q E →
      ∃ t, PSs (cxOf CX0 P w K mg base N qual scope f cdv A outer s H E).nox body t ∧ t { nx := fun _ H' => Q .non H', rt := Q } (start N vs) H) : FnOk P w K mg base CX0 (k + 1) f fd ps sp := F.ok S len fun cdv A outer s H vs Q E hr hsp => by
  obtain ⟨t, h, q⟩ := hb cdv A outer s H vs Q E hr hsp
  exact ⟨t, h.nox, q⟩
structure D (K : PySem.W.Frag) (mg : Str → Option Value) where
  f_is_whole : Addr
  d_is_whole : FuncData
  U_is_whole : Fun K "is_whole" "is_whole" s_is_whole f_is_whole d_is_whole
  g_is_whole : mg "is_whole" = some (.ref f_is_whole)
  f_is_between : Addr
  d_is_between : FuncData
  U_is_between : Fun K "is_between" "is_between" s_is_between f_is_between d_is_between
  g_is_between : mg "is_between" = some (.ref f_is_between)
  f_is_tuple : Addr
  d_is_tuple : FuncData
  U_is_tuple : Fun K "is_tuple" "is_tuple" s_is_tuple f_is_tuple d_is_tuple
  g_is_tuple : mg "is_tuple" = some (.ref f_is_tuple)
  f_is_name : Addr
  d_is_name : FuncData
  c_is_name : Addr
  P_is_name : Addr
  V_is_name : FunC K "is_name" "is_name" s_is_name f_is_name d_is_name c_is_name
  g_is_name : mg "is_name" = some (.ref f_is_name)
  f_is_path : Addr
  d_is_path : FuncData
  c_is_path : Addr
  P_is_path : Addr
  V_is_path : FunC K "is_path" "is_path" s_is_path f_is_path d_is_path c_is_path
  g_is_path : mg "is_path" = some (.ref f_is_path)
  f_check_name : Addr
  d_check_name : FuncData
  U_check_name : Fun K "check_name" "check_name" s_check_name f_check_name d_check_name
  g_check_name : mg "check_name" = some (.ref f_check_name)
  f_check_path : Addr
  d_check_path : FuncData
  U_check_path : Fun K "check_path" "check_path" s_check_path f_check_path d_check_path
  g_check_path : mg "check_path" = some (.ref f_check_path)
  f_init : Addr
  d_init : FuncData
  U_init : Fun K "__init__" "Machine.__init__" s_init f_init d_init
  f__take : Addr
  d__take : FuncData
  U__take : Fun K "_take" "Machine._take" s__take f__take d__take
  f__telling_signs : Addr
  d__telling_signs : FuncData
  U__telling_signs : Fun K "_telling_signs" "Machine._telling_signs" s__telling_signs f__telling_signs d__telling_signs
  f__closed : Addr
  d__closed : FuncData
  U__closed : Fun K "_closed" "Machine._closed" s__closed f__closed d__closed
  f_step : Addr
  d_step : FuncData
  U_step : Fun K "step" "Machine.step" s_step f_step d_step
  f_begun : Addr
  d_begun : FuncData
  U_begun : Fun K "begun" "Machine.begun" s_begun f_begun d_begun
  f_behind : Addr
  d_behind : FuncData
  U_behind : Fun K "behind" "Machine.behind" s_behind f_behind d_behind
  f_places_of : Addr
  d_places_of : FuncData
  U_places_of : Fun K "places_of" "Machine.places_of" s_places_of f_places_of d_places_of
  f_standing_of : Addr
  d_standing_of : FuncData
  U_standing_of : Fun K "standing_of" "Machine.standing_of" s_standing_of f_standing_of d_standing_of
  f_is_pattern : Addr
  d_is_pattern : FuncData
  c_is_pattern : Addr
  P_is_pattern : Addr
  V_is_pattern : FunC K "is_pattern" "is_pattern" s_is_pattern f_is_pattern d_is_pattern c_is_pattern
  g_is_pattern : mg "is_pattern" = some (.ref f_is_pattern)
  f_check_pattern : Addr
  d_check_pattern : FuncData
  U_check_pattern : Fun K "check_pattern" "check_pattern" s_check_pattern f_check_pattern d_check_pattern
  g_check_pattern : mg "check_pattern" = some (.ref f_check_pattern)
  f_body_of : Addr
  d_body_of : FuncData
  U_body_of : Fun K "body_of" "body_of" s_body_of f_body_of d_body_of
  g_body_of : mg "body_of" = some (.ref f_body_of)
  f_is_path_row : Addr
  d_is_path_row : FuncData
  U_is_path_row : Fun K "is_path_row" "is_path_row" s_is_path_row f_is_path_row d_is_path_row
  g_is_path_row : mg "is_path_row" = some (.ref f_is_path_row)
  f_fault_in_paths : Addr
  d_fault_in_paths : FuncData
  U_fault_in_paths : Fun K "fault_in_paths" "fault_in_paths" s_fault_in_paths f_fault_in_paths d_fault_in_paths
  g_fault_in_paths : mg "fault_in_paths" = some (.ref f_fault_in_paths)
  f_are_paths : Addr
  d_are_paths : FuncData
  U_are_paths : Fun K "are_paths" "are_paths" s_are_paths f_are_paths d_are_paths
  g_are_paths : mg "are_paths" = some (.ref f_are_paths)
  f_check_paths : Addr
  d_check_paths : FuncData
  U_check_paths : Fun K "check_paths" "check_paths" s_check_paths f_check_paths d_check_paths
  g_check_paths : mg "check_paths" = some (.ref f_check_paths)
  f_machine_of : Addr
  d_machine_of : FuncData
  U_machine_of : Fun K "machine_of" "machine_of" s_machine_of f_machine_of d_machine_of
  g_machine_of : mg "machine_of" = some (.ref f_machine_of)
  f_ranked : Addr
  d_ranked : FuncData
  c_ranked : Addr
  P_ranked : Addr
  V_ranked : FunC K "ranked" "ranked" s_ranked f_ranked d_ranked c_ranked
  g_ranked : mg "ranked" = some (.ref f_ranked)
  f_decided : Addr
  d_decided : FuncData
  U_decided : Fun K "decided" "decided" s_decided f_decided d_decided
  g_decided : mg "decided" = some (.ref f_decided)
  f_deciding : Addr
  d_deciding : FuncData
  U_deciding : Fun K "deciding" "deciding" s_deciding f_deciding d_deciding
  g_deciding : mg "deciding" = some (.ref f_deciding)
  f_is_let_by : Addr
  d_is_let_by : FuncData
  U_is_let_by : Fun K "is_let_by" "is_let_by" s_is_let_by f_is_let_by d_is_let_by
  g_is_let_by : mg "is_let_by" = some (.ref f_is_let_by)
  f_is_limit : Addr
  d_is_limit : FuncData
  U_is_limit : Fun K "is_limit" "is_limit" s_is_limit f_is_limit d_is_limit
  g_is_limit : mg "is_limit" = some (.ref f_is_limit)
  f_are_limits : Addr
  d_are_limits : FuncData
  c_are_limits : Addr
  P_are_limits : Addr
  V_are_limits : FunC K "are_limits" "are_limits" s_are_limits f_are_limits d_are_limits c_are_limits
  g_are_limits : mg "are_limits" = some (.ref f_are_limits)
  f_are_hours : Addr
  d_are_hours : FuncData
  c_are_hours : Addr
  P_are_hours : Addr
  V_are_hours : FunC K "are_hours" "are_hours" s_are_hours f_are_hours d_are_hours c_are_hours
  g_are_hours : mg "are_hours" = some (.ref f_are_hours)
  f_is_caller : Addr
  d_is_caller : FuncData
  U_is_caller : Fun K "is_caller" "is_caller" s_is_caller f_is_caller d_is_caller
  g_is_caller : mg "is_caller" = some (.ref f_is_caller)
  f_is_group : Addr
  d_is_group : FuncData
  c_is_group : Addr
  P_is_group : Addr
  V_is_group : FunC K "is_group" "is_group" s_is_group f_is_group d_is_group c_is_group
  g_is_group : mg "is_group" = some (.ref f_is_group)
  f_fault_in_file : Addr
  d_fault_in_file : FuncData
  U_fault_in_file : Fun K "fault_in_file" "fault_in_file" s_fault_in_file f_fault_in_file d_fault_in_file
  g_fault_in_file : mg "fault_in_file" = some (.ref f_fault_in_file)
  f_check_file : Addr
  d_check_file : FuncData
  U_check_file : Fun K "check_file" "check_file" s_check_file f_check_file d_check_file
  g_check_file : mg "check_file" = some (.ref f_check_file)
  f_group_of : Addr
  d_group_of : FuncData
  U_group_of : Fun K "group_of" "group_of" s_group_of f_group_of d_group_of
  g_group_of : mg "group_of" = some (.ref f_group_of)
  f_paths_of : Addr
  d_paths_of : FuncData
  U_paths_of : Fun K "paths_of" "paths_of" s_paths_of f_paths_of d_paths_of
  g_paths_of : mg "paths_of" = some (.ref f_paths_of)
  f_rules_of : Addr
  d_rules_of : FuncData
  U_rules_of : Fun K "rules_of" "rules_of" s_rules_of f_rules_of d_rules_of
  g_rules_of : mg "rules_of" = some (.ref f_rules_of)
  f_is_let : Addr
  d_is_let : FuncData
  U_is_let : Fun K "is_let" "is_let" s_is_let f_is_let d_is_let
  g_is_let : mg "is_let" = some (.ref f_is_let)
  f_reason : Addr
  d_reason : FuncData
  U_reason : Fun K "reason" "reason" s_reason f_reason d_reason
  g_reason : mg "reason" = some (.ref f_reason)
  f_l_well : Addr
  d_l_well : FuncData
  U_l_well : Fun K "_law_well" "_law_well" s_l_well f_l_well d_l_well
  g_l_well : mg "_law_well" = some (.ref f_l_well)
  f_l_pick : Addr
  d_l_pick : FuncData
  U_l_pick : Fun K "_law_pick" "_law_pick" s_l_pick f_l_pick d_l_pick
  g_l_pick : mg "_law_pick" = some (.ref f_l_pick)
  f_l_one : Addr
  d_l_one : FuncData
  U_l_one : Fun K "_law_one" "_law_one" s_l_one f_l_one d_l_one
  g_l_one : mg "_law_one" = some (.ref f_l_one)
  f_l_signs : Addr
  d_l_signs : FuncData
  U_l_signs : Fun K "_law_signs" "_law_signs" s_l_signs f_l_signs d_l_signs
  g_l_signs : mg "_law_signs" = some (.ref f_l_signs)
  f_l_alphabet : Addr
  d_l_alphabet : FuncData
  U_l_alphabet : Fun K "_law_alphabet" "_law_alphabet" s_l_alphabet f_l_alphabet d_l_alphabet
  g_l_alphabet : mg "_law_alphabet" = some (.ref f_l_alphabet)
  f_l_body : Addr
  d_l_body : FuncData
  U_l_body : Fun K "_law_body" "_law_body" s_l_body f_l_body d_l_body
  g_l_body : mg "_law_body" = some (.ref f_l_body)
  f_l_fits : Addr
  d_l_fits : FuncData
  U_l_fits : Fun K "_law_fits" "_law_fits" s_l_fits f_l_fits d_l_fits
  g_l_fits : mg "_law_fits" = some (.ref f_l_fits)
  f_l_meets : Addr
  d_l_meets : FuncData
  U_l_meets : Fun K "_law_meets" "_law_meets" s_l_meets f_l_meets d_l_meets
  g_l_meets : mg "_law_meets" = some (.ref f_l_meets)
  f_l_some_pattern : Addr
  d_l_some_pattern : FuncData
  U_l_some_pattern : Fun K "_law_some_pattern" "_law_some_pattern" s_l_some_pattern f_l_some_pattern d_l_some_pattern
  g_l_some_pattern : mg "_law_some_pattern" = some (.ref f_l_some_pattern)
  f_l_some_path : Addr
  d_l_some_path : FuncData
  U_l_some_path : Fun K "_law_some_path" "_law_some_path" s_l_some_path f_l_some_path d_l_some_path
  g_l_some_path : mg "_law_some_path" = some (.ref f_l_some_path)
  f_l_some_rows : Addr
  d_l_some_rows : FuncData
  U_l_some_rows : Fun K "_law_some_rows" "_law_some_rows" s_l_some_rows f_l_some_rows d_l_some_rows
  g_l_some_rows : mg "_law_some_rows" = some (.ref f_l_some_rows)
  f_l_decides : Addr
  d_l_decides : FuncData
  U_l_decides : Fun K "_law_decides" "_law_decides" s_l_decides f_l_decides d_l_decides
  g_l_decides : mg "_law_decides" = some (.ref f_l_decides)
  f_l_bars : Addr
  d_l_bars : FuncData
  U_l_bars : Fun K "_law_bars" "_law_bars" s_l_bars f_l_bars d_l_bars
  g_l_bars : mg "_law_bars" = some (.ref f_l_bars)
  f_l_some_limits : Addr
  d_l_some_limits : FuncData
  U_l_some_limits : Fun K "_law_some_limits" "_law_some_limits" s_l_some_limits f_l_some_limits d_l_some_limits
  g_l_some_limits : mg "_law_some_limits" = some (.ref f_l_some_limits)
  f_l_some_hours : Addr
  d_l_some_hours : FuncData
  U_l_some_hours : Fun K "_law_some_hours" "_law_some_hours" s_l_some_hours f_l_some_hours d_l_some_hours
  g_l_some_hours : mg "_law_some_hours" = some (.ref f_l_some_hours)
  f_l_some_name : Addr
  d_l_some_name : FuncData
  U_l_some_name : Fun K "_law_some_name" "_law_some_name" s_l_some_name f_l_some_name d_l_some_name
  g_l_some_name : mg "_law_some_name" = some (.ref f_l_some_name)
  f_l_some_file : Addr
  d_l_some_file : FuncData
  U_l_some_file : Fun K "_law_some_file" "_law_some_file" s_l_some_file f_l_some_file d_l_some_file
  g_l_some_file : mg "_law_some_file" = some (.ref f_l_some_file)
  f_l_group : Addr
  d_l_group : FuncData
  U_l_group : Fun K "_law_group" "_law_group" s_l_group f_l_group d_l_group
  g_l_group : mg "_law_group" = some (.ref f_l_group)
  f_l_some_crawler : Addr
  d_l_some_crawler : FuncData
  U_l_some_crawler : Fun K "_law_some_crawler" "_law_some_crawler" s_l_some_crawler f_l_some_crawler d_l_some_crawler
  g_l_some_crawler : mg "_law_some_crawler" = some (.ref f_l_some_crawler)
  f_l_one_right : Addr
  d_l_one_right : FuncData
  U_l_one_right : Fun K "_law_one_right" "_law_one_right" s_l_one_right f_l_one_right d_l_one_right
  g_l_one_right : mg "_law_one_right" = some (.ref f_l_one_right)
  f_l_right : Addr
  d_l_right : FuncData
  U_l_right : Fun K "_law_right" "_law_right" s_l_right f_l_right d_l_right
  g_l_right : mg "_law_right" = some (.ref f_l_right)
  f_law : Addr
  d_law : FuncData
  U_law : Fun K "law" "law" s_law f_law d_law
  g_law : mg "law" = some (.ref f_law)
  C_Machine : Addr
  cl_Machine : Cls K C_Machine
  g_Machine : mg "Machine" = some (.ref C_Machine)
  mk_Machine : Mk K C_Machine f_init
  n_bodies : NoAttr K C_Machine "bodies"
  n_ends : NoAttr K C_Machine "ends"
  n_held : NoAttr K C_Machine "held"
  n_moves : NoAttr K C_Machine "moves"
  n_signs : NoAttr K C_Machine "signs"
  n_stars : NoAttr K C_Machine "stars"
  n_starts : NoAttr K C_Machine "starts"
  M__take : Meth K C_Machine "_take" f__take
  M__telling_signs : Meth K C_Machine "_telling_signs" f__telling_signs
  M__closed : Meth K C_Machine "_closed" f__closed
  M_step : Meth K C_Machine "step" f_step
  M_begun : Meth K C_Machine "begun" f_begun
  M_behind : Meth K C_Machine "behind" f_behind
  M_places_of : Meth K C_Machine "places_of" f_places_of
  M_standing_of : Meth K C_Machine "standing_of" f_standing_of
  t_LETTERS : Tok
  g_LETTERS : mg "LETTERS" = some (.str "abcdefghijklmnopqrstuvwxyz" t_LETTERS)
  t_SIGNS : Tok
  g_SIGNS : mg "SIGNS" = some (.str "-./0123456789_abcdefghijklmnopqrstuvwxyz" t_SIGNS)
  t_LONGEST_NAME : Tok
  g_LONGEST_NAME : mg "LONGEST_NAME" = some (.int 12 t_LONGEST_NAME)
  t_LONGEST_PATTERN : Tok
  g_LONGEST_PATTERN : mg "LONGEST_PATTERN" = some (.int 12 t_LONGEST_PATTERN)
  t_MOST_STARS : Tok
  g_MOST_STARS : mg "MOST_STARS" = some (.int 4 t_MOST_STARS)
  t_MOST_PATHS : Tok
  g_MOST_PATHS : mg "MOST_PATHS" = some (.int 6 t_MOST_PATHS)
  t_MOST_ASKS : Tok
  g_MOST_ASKS : mg "MOST_ASKS" = some (.int 6 t_MOST_ASKS)
  t_WIDEST : Tok
  g_WIDEST : mg "WIDEST" = some (.int 12 t_WIDEST)
  t_MOST_PAIRS : Tok
  g_MOST_PAIRS : mg "MOST_PAIRS" = some (.int 4 t_MOST_PAIRS)
  t_ANYONE : Tok
  g_ANYONE : mg "ANYONE" = some (.str "*" t_ANYONE)
  t_MOST_GROUPS : Tok
  g_MOST_GROUPS : mg "MOST_GROUPS" = some (.int 4 t_MOST_GROUPS)
  t_MOST_NAMES : Tok
  g_MOST_NAMES : mg "MOST_NAMES" = some (.int 3 t_MOST_NAMES)
  abs : mg "abs" = none
  all : mg "all" = none
  bool : mg "bool" = none
  divmod : mg "divmod" = none
  enumerate : mg "enumerate" = none
  int : mg "int" = none
  isinstance : mg "isinstance" = none
  len : mg "len" = none
  list : mg "list" = none
  max : mg "max" = none
  min : mg "min" = none
  range : mg "range" = none
  repr : mg "repr" = none
  sorted : mg "sorted" = none
  str : mg "str" = none
  sum : mg "sum" = none
  tuple : mg "tuple" = none
namespace D
variable {K : PySem.W.Frag} {mg : Str → Option Value} (T : D K mg)
theorem b_is_whole : Binds K T.d_is_whole ["value"] [] := T.U_is_whole.binds fun _ _ _ _ _ _ us hl => match us, hl with | [_], _ => rfl
theorem b_is_between : Binds K T.d_is_between ["value", "low", "high"] [] := T.U_is_between.binds fun _ _ _ _ _ _ us hl => match us, hl with | [_, _, _], _ => rfl
theorem b_is_tuple : Binds K T.d_is_tuple ["value", "low", "high"] [] := T.U_is_tuple.binds fun _ _ _ _ _ _ us hl => match us, hl with | [_, _, _], _ => rfl
theorem U_is_name : Fun K "is_name" "is_name" s_is_name T.f_is_name T.d_is_name := T.V_is_name.fun
theorem b_is_name : Binds K T.d_is_name ["value"] [] := T.U_is_name.binds fun _ _ _ _ _ _ us hl => match us, hl with | [_], _ => rfl
theorem U_is_path : Fun K "is_path" "is_path" s_is_path T.f_is_path T.d_is_path := T.V_is_path.fun
theorem b_is_path : Binds K T.d_is_path ["value"] [] := T.U_is_path.binds fun _ _ _ _ _ _ us hl => match us, hl with | [_], _ => rfl
theorem b_check_name : Binds K T.d_check_name ["given"] [] := T.U_check_name.binds fun _ _ _ _ _ _ us hl => match us, hl with | [_], _ => rfl
theorem b_check_path : Binds K T.d_check_path ["given"] [] := T.U_check_path.binds fun _ _ _ _ _ _ us hl => match us, hl with | [_], _ => rfl
theorem b_init : Binds K T.d_init ["self", "bodies"] [] := T.U_init.binds fun _ _ _ _ _ _ us hl => match us, hl with | [_, _], _ => rfl
theorem b__take : Binds K T.d__take ["self", "body", "first"] [] := T.U__take.binds fun _ _ _ _ _ _ us hl => match us, hl with | [_, _, _], _ => rfl
theorem b__telling_signs : Binds K T.d__telling_signs ["self"] [] := T.U__telling_signs.binds fun _ _ _ _ _ _ us hl => match us, hl with | [_], _ => rfl
theorem b__closed : Binds K T.d__closed ["self", "standing"] [] := T.U__closed.binds fun _ _ _ _ _ _ us hl => match us, hl with | [_, _], _ => rfl
theorem b_step : Binds K T.d_step ["self", "standing", "sign"] [] := T.U_step.binds fun _ _ _ _ _ _ us hl => match us, hl with | [_, _, _], _ => rfl
theorem b_begun : Binds K T.d_begun ["self"] [] := T.U_begun.binds fun _ _ _ _ _ _ us hl => match us, hl with | [_], _ => rfl
theorem b_behind : Binds K T.d_behind ["self", "path"] [] := T.U_behind.binds fun _ _ _ _ _ _ us hl => match us, hl with | [_, _], _ => rfl
theorem b_places_of : Binds K T.d_places_of ["self", "standing", "which"] [] := T.U_places_of.binds fun _ _ _ _ _ _ us hl => match us, hl with | [_, _, _], _ => rfl
theorem b_standing_of : Binds K T.d_standing_of ["self", "rows"] [] := T.U_standing_of.binds fun _ _ _ _ _ _ us hl => match us, hl with | [_, _], _ => rfl
theorem U_is_pattern : Fun K "is_pattern" "is_pattern" s_is_pattern T.f_is_pattern T.d_is_pattern := T.V_is_pattern.fun
theorem b_is_pattern : Binds K T.d_is_pattern ["value"] [] := T.U_is_pattern.binds fun _ _ _ _ _ _ us hl => match us, hl with | [_], _ => rfl
theorem b_check_pattern : Binds K T.d_check_pattern ["given"] [] := T.U_check_pattern.binds fun _ _ _ _ _ _ us hl => match us, hl with | [_], _ => rfl
theorem b_body_of : Binds K T.d_body_of ["pattern"] [] := T.U_body_of.binds fun _ _ _ _ _ _ us hl => match us, hl with | [_], _ => rfl
theorem b_is_path_row : Binds K T.d_is_path_row ["value"] [] := T.U_is_path_row.binds fun _ _ _ _ _ _ us hl => match us, hl with | [_], _ => rfl
theorem b_fault_in_paths : Binds K T.d_fault_in_paths ["value"] [] := T.U_fault_in_paths.binds fun _ _ _ _ _ _ us hl => match us, hl with | [_], _ => rfl
theorem b_are_paths : Binds K T.d_are_paths ["value"] [] := T.U_are_paths.binds fun _ _ _ _ _ _ us hl => match us, hl with | [_], _ => rfl
theorem b_check_paths : Binds K T.d_check_paths ["given"] [] := T.U_check_paths.binds fun _ _ _ _ _ _ us hl => match us, hl with | [_], _ => rfl
theorem b_machine_of : Binds K T.d_machine_of ["paths"] [] := T.U_machine_of.binds fun _ _ _ _ _ _ us hl => match us, hl with | [_], _ => rfl
theorem U_ranked : Fun K "ranked" "ranked" s_ranked T.f_ranked T.d_ranked := T.V_ranked.fun
theorem b_ranked : Binds K T.d_ranked ["paths", "ends"] [] := T.U_ranked.binds fun _ _ _ _ _ _ us hl => match us, hl with | [_, _], _ => rfl
theorem b_decided : Binds K T.d_decided ["ranks", "standing"] [] := T.U_decided.binds fun _ _ _ _ _ _ us hl => match us, hl with | [_, _], _ => rfl
theorem b_deciding : Binds K T.d_deciding ["paths", "path"] [] := T.U_deciding.binds fun _ _ _ _ _ _ us hl => match us, hl with | [_, _], _ => rfl
theorem b_is_let_by : Binds K T.d_is_let_by ["paths", "path"] [] := T.U_is_let_by.binds fun _ _ _ _ _ _ us hl => match us, hl with | [_, _], _ => rfl
theorem b_is_limit : Binds K T.d_is_limit ["value"] [] := T.U_is_limit.binds fun _ _ _ _ _ _ us hl => match us, hl with | [_], _ => rfl
theorem U_are_limits : Fun K "are_limits" "are_limits" s_are_limits T.f_are_limits T.d_are_limits := T.V_are_limits.fun
theorem b_are_limits : Binds K T.d_are_limits ["value"] [] := T.U_are_limits.binds fun _ _ _ _ _ _ us hl => match us, hl with | [_], _ => rfl
theorem U_are_hours : Fun K "are_hours" "are_hours" s_are_hours T.f_are_hours T.d_are_hours := T.V_are_hours.fun
theorem b_are_hours : Binds K T.d_are_hours ["value"] [] := T.U_are_hours.binds fun _ _ _ _ _ _ us hl => match us, hl with | [_], _ => rfl
theorem b_is_caller : Binds K T.d_is_caller ["value"] [] := T.U_is_caller.binds fun _ _ _ _ _ _ us hl => match us, hl with | [_], _ => rfl
theorem U_is_group : Fun K "is_group" "is_group" s_is_group T.f_is_group T.d_is_group := T.V_is_group.fun
theorem b_is_group : Binds K T.d_is_group ["value"] [] := T.U_is_group.binds fun _ _ _ _ _ _ us hl => match us, hl with | [_], _ => rfl
theorem b_fault_in_file : Binds K T.d_fault_in_file ["value"] [] := T.U_fault_in_file.binds fun _ _ _ _ _ _ us hl => match us, hl with | [_], _ => rfl
theorem b_check_file : Binds K T.d_check_file ["given"] [] := T.U_check_file.binds fun _ _ _ _ _ _ us hl => match us, hl with | [_], _ => rfl
theorem b_group_of : Binds K T.d_group_of ["file", "crawler"] [] := T.U_group_of.binds fun _ _ _ _ _ _ us hl => match us, hl with | [_, _], _ => rfl
theorem b_paths_of : Binds K T.d_paths_of ["file", "crawler"] [] := T.U_paths_of.binds fun _ _ _ _ _ _ us hl => match us, hl with | [_, _], _ => rfl
theorem b_rules_of : Binds K T.d_rules_of ["file", "crawler"] [] := T.U_rules_of.binds fun _ _ _ _ _ _ us hl => match us, hl with | [_, _], _ => rfl
theorem b_is_let : Binds K T.d_is_let ["file", "crawler", "path"] [] := T.U_is_let.binds fun _ _ _ _ _ _ us hl => match us, hl with | [_, _, _], _ => rfl
theorem b_reason : Binds K T.d_reason ["file", "crawler", "path"] [] := T.U_reason.binds fun _ _ _ _ _ _ us hl => match us, hl with | [_, _, _], _ => rfl
theorem b_l_well : Binds K T.d_l_well ["_law_script", "_law_turn"] [] := T.U_l_well.binds fun _ _ _ _ _ _ us hl => match us, hl with | [_, _], _ => rfl
theorem b_l_pick : Binds K T.d_l_pick ["_law_well_here", "_law_top"] [] := T.U_l_pick.binds fun _ _ _ _ _ _ us hl => match us, hl with | [_, _], _ => rfl
theorem b_l_one : Binds K T.d_l_one ["_law_well_here", "_law_some"] [] := T.U_l_one.binds fun _ _ _ _ _ _ us hl => match us, hl with | [_, _], _ => rfl
theorem b_l_signs : Binds K T.d_l_signs [] [] := T.U_l_signs.binds fun _ _ _ _ _ _ us hl => match us, hl with | [], _ => rfl
theorem b_l_alphabet : Binds K T.d_l_alphabet ["_law_well_here"] [] := T.U_l_alphabet.binds fun _ _ _ _ _ _ us hl => match us, hl with | [_], _ => rfl
theorem b_l_body : Binds K T.d_l_body ["_law_shape"] [] := T.U_l_body.binds fun _ _ _ _ _ _ us hl => match us, hl with | [_], _ => rfl
theorem b_l_fits : Binds K T.d_l_fits ["_law_body_here", "_law_route"] [] := T.U_l_fits.binds fun _ _ _ _ _ _ us hl => match us, hl with | [_, _], _ => rfl
theorem b_l_meets : Binds K T.d_l_meets ["_law_shape", "_law_route"] [] := T.U_l_meets.binds fun _ _ _ _ _ _ us hl => match us, hl with | [_, _], _ => rfl
theorem b_l_some_pattern : Binds K T.d_l_some_pattern ["_law_well_here", "_law_signs_here", "_law_stars", "_law_top"] [] := T.U_l_some_pattern.binds fun _ _ _ _ _ _ us hl => match us, hl with | [_, _, _, _], _ => rfl
theorem b_l_some_path : Binds K T.d_l_some_path ["_law_well_here", "_law_signs_here", "_law_shape"] [] := T.U_l_some_path.binds fun _ _ _ _ _ _ us hl => match us, hl with | [_, _, _], _ => rfl
theorem b_l_some_rows : Binds K T.d_l_some_rows ["_law_well_here", "_law_signs_here", "_law_top"] [] := T.U_l_some_rows.binds fun _ _ _ _ _ _ us hl => match us, hl with | [_, _, _], _ => rfl
theorem b_l_decides : Binds K T.d_l_decides ["_law_listed", "_law_route"] [] := T.U_l_decides.binds fun _ _ _ _ _ _ us hl => match us, hl with | [_, _], _ => rfl
theorem b_l_bars : Binds K T.d_l_bars ["_law_listed", "_law_route"] [] := T.U_l_bars.binds fun _ _ _ _ _ _ us hl => match us, hl with | [_, _], _ => rfl
theorem b_l_some_limits : Binds K T.d_l_some_limits ["_law_well_here", "_law_top", "_law_width"] [] := T.U_l_some_limits.binds fun _ _ _ _ _ _ us hl => match us, hl with | [_, _, _], _ => rfl
theorem b_l_some_hours : Binds K T.d_l_some_hours ["_law_well_here", "_law_top"] [] := T.U_l_some_hours.binds fun _ _ _ _ _ _ us hl => match us, hl with | [_, _], _ => rfl
theorem b_l_some_name : Binds K T.d_l_some_name ["_law_well_here", "_law_used"] [] := T.U_l_some_name.binds fun _ _ _ _ _ _ us hl => match us, hl with | [_, _], _ => rfl
theorem b_l_some_file : Binds K T.d_l_some_file ["_law_well_here", "_law_top"] [] := T.U_l_some_file.binds fun _ _ _ _ _ _ us hl => match us, hl with | [_, _], _ => rfl
theorem b_l_group : Binds K T.d_l_group ["_law_groups", "_law_who"] [] := T.U_l_group.binds fun _ _ _ _ _ _ us hl => match us, hl with | [_, _], _ => rfl
theorem b_l_some_crawler : Binds K T.d_l_some_crawler ["_law_well_here", "_law_groups"] [] := T.U_l_some_crawler.binds fun _ _ _ _ _ _ us hl => match us, hl with | [_, _], _ => rfl
theorem b_l_one_right : Binds K T.d_l_one_right ["_law_groups", "_law_who", "_law_route"] [] := T.U_l_one_right.binds fun _ _ _ _ _ _ us hl => match us, hl with | [_, _, _], _ => rfl
theorem b_l_right : Binds K T.d_l_right ["_law_well_here"] [] := T.U_l_right.binds fun _ _ _ _ _ _ us hl => match us, hl with | [_], _ => rfl
theorem b_law : Binds K T.d_law ["_law_script"] [] := T.U_law.binds fun _ _ _ _ _ _ us hl => match us, hl with | [_], _ => rfl
end D
end KP

set_option Elab.async false
set_option maxRecDepth 100000
set_option maxHeartbeats 4000000
set_option linter.all false
/-! Ours: ranked: rows by length, bars first. -/
namespace KP
open PySem PySem.Spec PyProof.Rows L2 Gr GxR
theorem od_tup {H : Hp} {v : V} {ds : List PyData} (h : Od H v (.tuple ds)) : ∃ a xs, v = .ref a ∧ H a = some (.tup xs) ∧ OdAll H xs ds := by
  cases h with
  | tup e o => exact ⟨_, _, rfl, e, o⟩
theorem OdAll.get {H : Hp} : ∀ {vs : List V} {ds : List PyData}, OdAll H vs ds → ∀ {i : Nat} {d : PyData}, ds[i]? = some d → ∃ v, vs[i]? = some v ∧ Od H v d
  | _, _, .nil, i, d, e => by cases e
  | _, _, .cons a b, 0, d, e => by cases e; exact ⟨_, rfl, a⟩
  | _, _, .cons a b, i + 1, d, e => OdAll.get b e
theorem gn {i : Nat} {v : V} {σ : L2.St} {H : Hp} {Q : L2.St → Hp → Prop} (h : Q (σ.set i (some v)) H) : gName i v σ H Q := h
theorem next_of {E : Ends} {σ : L2.St} {H : Hp} (h : E.nx σ H) : tNext E σ H := h
def rowP (r : Str × Str) : PyData := .tuple [.str r.1, .str r.2]
def barS : Str := Str.ofString "bar"
def keyOf (i : Nat) : Option PyData → PyData
  | some (.tuple [.str w, .str p]) => .tuple [.int (-(p.length : Int)), .bool (w == barS), .int (i : Nat)]
  | _ => .tuple [.int 0, .bool false, .int (i : Nat)]
def keyR : List PyData → Nat → PyData
  | [.tuple rs], i => keyOf i rs[i]?
  | _, i => keyOf i none
theorem keyOf_form (i : Nat) (o : Option PyData) : ∃ (a : Int) (b : Bool), keyOf i o = .tuple [.int a, .bool b, .int (i : Nat)] := by
  unfold keyOf
  split
  · exact ⟨_, _, rfl⟩
  · exact ⟨_, _, rfl⟩
theorem keyR_form (fd : List PyData) (i : Nat) : ∃ (a : Int) (b : Bool), keyR fd i = .tuple [.int a, .bool b, .int (i : Nat)] := by
  unfold keyR
  split <;> exact keyOf_form _ _
theorem flat3 {h : Heap} {u : Value} {a c : Int} {b : Bool} (r : Vd h u (.tuple [.int a, .bool b, .int c])) : Reads h u (.tuple [.int a, .bool b, .int c]) [] := by
  obtain ⟨as, r⟩ := r
  cases r with
  | @tuple _ _ vs _ _ _ h1 h2 h3 h4 =>
    generalize hl : vs.toList = l at h4
    cases h4 with
    | cons a1 r1 =>
      cases a1
      cases r1 with
      | cons a2 r2 =>
        cases a2
        cases r2 with
        | cons a3 r3 =>
          cases a3
          cases r3
          exact .tuple h1 h2 h3 (by rw [hl]; exact .cons (.int _ _) (.cons (.bool _) (.cons (.int _ _) .nil)))
theorem key_alike (fd : List PyData) (n : Nat) : PySem.W.AllAlike ((List.range n).map (keyR fd)) := fun d hd d' hd' => by
  obtain ⟨i, _, rfl⟩ := List.mem_map.mp hd
  obtain ⟨j, _, rfl⟩ := List.mem_map.mp hd'
  obtain ⟨a, b, e⟩ := keyR_form fd i
  obtain ⟨a', b', e'⟩ := keyR_form fd j
  rw [e, e']
  simp [PySem.W.alike, PySem.W.alikeAll]
theorem key_sort (fd : List PyData) (n : Nat) : PySem.W.Sortable ((List.range n).map (keyR fd)) := .inl fun d hd => by
  obtain ⟨i, _, rfl⟩ := List.mem_map.mp hd
  obtain ⟨a, b, e⟩ := keyR_form fd i
  exact ⟨_, _, e⟩
theorem key_depth (fd : List PyData) (i : Nat) : (keyR fd i).depth ≤ 60 := by
  obtain ⟨a, b, e⟩ := keyR_form fd i
  rw [e]
  have : (PyData.tuple [.int a, .bool b, .int (i : Nat)]).depth = 1 := by simp [PyData.depth, PyData.depthAll]
  omega
theorem key_at {rows : List (Str × Str)} {i : Nat} (hi : i < rows.length) : keyR [.tuple (rows.map rowP)] i = .tuple [.int (-((rows[i]).2.length : Int)), .bool ((rows[i]).1 == barS), .int (i : Nat)] := by
  show keyOf i (rows.map rowP)[i]? = _
  rw [List.getElem?_map, List.getElem?_eq_getElem hi]
  rfl
def domR (fd : List PyData) (i : Nat) : Prop := ∃ rows : List (Str × Str), fd = [.tuple (rows.map rowP)] ∧ i < rows.length ∧ rows.length ≤ 100 ∧ ∀ r ∈ rows, r.2.length ≤ 1000
section
variable {P : Program} {w : World} {K : PySem.W.Frag} {mg : Str → Option Value} {base : Heap}
theorem sc_ranked : FnScope ["paths", "ends", "order", "at"] ["paths", "ends"] (defScope s_ranked) := ⟨rfl, rfl, rfl, by decide +kernel, rfl, by decide +kernel, by decide +kernel⟩
def rkQ : Str := ("ranked" : Str) ++ ".<locals>." ++ "<lambda>"
def spRanked {K : PySem.W.Frag} {mg : Str → Option Value} (T : D K mg) : Sp := fun vs H Q _ => ∃ (pv : V) (ea : Addr) (rows : List (Str × Str)) (es : List Int), vs = [pv, .ref ea] ∧ Od H pv (.tuple (rows.map rowP)) ∧ rows.length ≤ 6 ∧ (∀ r ∈ rows, r.2.length ≤ 1000) ∧ H ea = some (.lst (es.map V.int)) ∧ es.length = rows.length ∧ LamX.TabS H T.P_ranked rkQ ∧
  ∀ (z : Addr) (xs : List V) (H' : Hp), ExtP T.P_ranked H H' → LamX.TabS H' T.P_ranked rkQ → H' z = some (.lst xs) → OdAll H' xs ((ordL (keyR [.tuple (rows.map rowP)]) rows.length).map fun i => .tuple [.int (es.getD i 0), .int (i : Nat), .bool ((rows.getD i ("", "")).1 == barS)]) → Q (.ref z) H'
theorem ix_tupB' {X : Cx} {s : Shared} {H : Hp} {sc : Scope} {en : Env} {fp : List Addr} : IxR (X.blk s H sc en fp) (rIxT X.K) := ix_tup
theorem ix_listB' {X : Cx} {s : Shared} {H : Hp} {sc : Scope} {en : Env} {fp : List Addr} : IxR (X.blk s H sc en fp) (rIxL X.K) := ix_list
theorem ok_ranked (T : D K mg) (TR : TabB base mg T.c_ranked T.P_ranked) : FnOk P w K mg base CX0 4 T.f_ranked T.d_ranked ["paths", "ends"] (spRanked T) := by
  refine T.V_ranked.ok sc_ranked (fun vs H Q E h => ?_) (fun A outer s H vs Q E hr h => ?_)
  · obtain ⟨pv, ea, rows, es, rfl, _⟩ := h
    rfl
  · obtain ⟨pv', ea, rows, es, rfl, oP, l6, hsz, eE, lE, hT, k⟩ := h
    have nd := sc_ranked.nd
    have mz : 5000 ≤ sizeLine := by decide
    refine ⟨_, pss_cons (ps_set (i := 2) nd rfl (.inl rfl) (pe_sortLam (k := 1) (y := "at") (xs := ["paths"]) (is := [0]) (dom := domR) (key := keyR) rfl T.sorted (by decide +kernel) (hr.mono (by decide))
          ⟨rfl, rfl, rfl, by decide +kernel, by rfl, ?_, .cons rfl (by rfl) (by decide +kernel) .nil⟩ (fun _ _ _ _ _ _ => rfl) (fun en m h0 v i fd hsc C hm hv hf hd => ?_) (fun fd i h u r => ?_) key_alike key_sort key_depth
          (pa_cons (pe_callTy cr_range1 (by rfl) T.range boot_range (pa_cons (pe_callB call_len_seq (by rfl) T.len PySem.boot_len (pa_cons (pv 0) pa_nil)) pa_nil)) pa_nil) (pk_cons (pe_lamV ⟨TR.code, TR.bm, TR.gP⟩ rfl rfl ?_) pk_nil)))
      (pss_one (ps_ret (pe_lc (own := [("at", 3)]) (g := gName 3) (tt := tYes) rfl nd (pi_list (pv 2)) (blkOk_by (N := ["paths", "ends", "order", "at"]) (sc := defScope s_ranked) (by decide +kernel)) (fun _ _ _ _ _ => pg_name (i := 3) nd rfl (.inl rfl)) (fun _ _ _ _ _ => pts_nil) (fun _ _ _ _ _ => pe_tup (pa_cons (pe_ix ix_listB' (pv 1) (pv 3) (fun _ _ => rfl)) (pa_cons (pv 3) (pa_cons (pe_cmpR op_eq (pe_ix ix_tupB' (pe_ix ix_tupB' (pv 0) (pv 3) (fun _ _ => rfl)) pe_int (fun _ _ => rfl)) pe_str (nomark _)) pa_nil))))))), ?_⟩
    · intro z hz e
      simp only [List.mem_cons, List.not_mem_nil, or_false] at hz
      rcases hz with rfl | rfl | rfl <;> first | exact ⟨_, rfl⟩ | cases e
    · obtain ⟨rows', rfl, hi, h100, hle⟩ := hd
      rw [key_at hi]
      cases hf with
      | cons c1 i1 r1 z1 _ =>
        have npaths : ∀ {pos : Pos}, QE P w base h0 1 en m (.Name "paths" pos) (.tuple (rows'.map rowP)) := fun {pos} => qe_free C (by rw [hsc]; decide +kernel) c1 i1 r1
        have nat : ∀ {pos : Pos}, QE P w base h0 1 en m (.Name "at" pos) (.int (i : Nat)) := fun {pos} => qe_name C (by rw [hsc]; decide +kernel) hm hv
        have hat : atI (rows'.map rowP) ((i : Nat) : Int) = some (rowP rows'[i]) := atI_nat (by rw [List.getElem?_map, List.getElem?_eq_getElem hi]; rfl)
        have hl1 : (rows'.map rowP).length ≤ sizeLine := by rw [List.length_map]; omega
        have hl2 : ([.str rows'[i].1, .str rows'[i].2] : List PyData).length ≤ sizeLine := by show 2 ≤ sizeLine; omega
        have hl3 := hle _ (List.getElem_mem hi)
        exact qe_tup (qes_cons (qe_neg (qe_lenS C (qe_ix (qe_ixA npaths nat hat hl1) rfl hl2) (by rw [hsc]; decide +kernel) T.len (by omega))) (qes_cons (qe_eqS (qe_ix (qe_ixA npaths nat hat hl1) rfl hl2) qe_str) (qes_cons nat qes_nil))) (by show 3 ≤ sizeLine; omega)
    · obtain ⟨a, b, e⟩ := keyR_form fd i
      rw [e] at r ⊢
      exact flat3 r
    · intro z hz e
      simp only [List.mem_cons, List.not_mem_nil, or_false] at hz
      rcases hz with rfl | rfl | rfl <;> first | exact ⟨_, rfl⟩ | cases e
    · obtain ⟨pa, pxs, rfl, ep, op⟩ := od_tup oP
      have lpx : pxs.length = rows.length := by rw [op.len, List.length_map]
      refine ⟨_, rfl, pa, _, rfl, .inr (SqT.of ep), _, rfl, fun r hr' => ?_⟩
      have s1 := same_upd (o := HO.rng 0 (pxs.length : Nat)) hr'
      refine ⟨hT.ext s1, fun f c' H1 e0 t1 n1 k1 => have e1 := ExtP.extN (hT.ext s1) e0; ⟨r, rows.length, f, c', [.tuple (rows.map rowP)], rfl, ?_, by omega, rfl, upd_same, ?_, ?_, fun i hi => ⟨rows, rfl, hi, by omega, hsz⟩, fun D H3 hD e3 => gn ?_⟩⟩
      · rw [upd_ne (ne_of_none (e1 _ _ upd_same fun _ q => nomatch q) n1)]
        have := e1 r _ upd_same fun _ q => nomatch q
        rw [lpx] at this
        exact this
      · rw [upd_ne (ne_of_none k1 n1)]
        exact k1
      · have st : ∀ o', Stay H (upd H1 f o') := fun o' a o e n => (upd_ne (ne_of_none (e1 _ _ (s1 _ _ e) n) n1)).trans (e1 _ _ (s1 _ _ e) n)
        exact .cons rfl (((Od.tup ep op).stay (st _)).dq) .nil
      dsimp only
      have est : ∀ b o, H b = some o → (∀ ps, o ≠ .tbl ps) → ∀ o', upd H1 f o' b = some o := fun b o e n o' => (upd_ne (ne_of_none (e1 _ _ (s1 _ _ e) n) n1)).trans (e1 _ _ (s1 _ _ e) n)
      obtain ⟨os, hos⟩ : ∃ os, os = ordL (keyR [.tuple (rows.map rowP)]) rows.length := ⟨_, rfl⟩
      have olt : ∀ i ∈ os, i < rows.length := fun i hi => by
        rw [hos] at hi
        unfold ordL at hi
        exact List.mem_range.mp ((List.mergeSort_perm _ _).mem_iff.mp hi)
      have lo : os.length = rows.length := by
        rw [hos]
        unfold ordL
        rw [List.length_mergeSort, List.length_range]
      rw [← hos] at k e3
      have x3 : LamX.ExtN H H3 := fun b o e n => by
        rw [e3, upd_ne (ne_of_none (est b o e n _) hD)]
        exact est b o e n _
      have eD : H3 D = some (.lst (os.map fun i => V.int (i : Nat))) := by rw [e3]; exact upd_same
      have t3 : LamX.TabS H3 T.P_ranked rkQ := by
        rw [e3]
        exact (LamX.TabS.ext t1 (fun b o e => (upd_ne (ne_of_none e n1)).trans e)).ext (fun b o e => (upd_ne (ne_of_none e hD)).trans e)
      have x4 : ExtP T.P_ranked H H3 := fun b o n e => by
        have e9 := e0 b o n (s1 _ _ e)
        rw [e3, upd_ne (ne_of_none ((upd_ne (ne_of_none e9 n1)).trans e9) hD), upd_ne (ne_of_none e9 n1)]
        exact e9
      have eE3 := x3 _ _ eE fun _ q => nomatch q
      have ep3 := x3 _ _ ep fun _ q => nomatch q
      have op3 : OdAll H3 pxs (rows.map rowP) := op.stay x3
      clear est e3 hD t1 n1 k1 e1 e0 s1 hr' ep op oP eE
      refine ⟨_, rfl, D, rfl, ⟨_, SqL.of eD⟩, fun D2 h2 => lc_list (K := K) (a := D) (xs := os.map fun i => V.int (i : Nat)) (fun j Hx => Same H3 Hx ∧ (∃ us, Hx D2 = some (.lst us) ∧ us.length = j) ∧ LstT Hx D2 ((os.take j).map fun i => .tuple [.int (es.getD i 0), .int (i : Nat), .bool ((rows.getD i ("", "")).1 == barS)])) ⟨same_upd h2, ⟨[], upd_same, rfl⟩, LstT.at upd_same⟩ (fun j Hx _ z => SqL.of (z.1 _ _ eD)) ?_ ?_⟩
      · rintro j x Hx hx ⟨sx, ⟨us, eu, lu⟩, lt⟩
        rw [List.getElem?_map] at hx
        obtain ⟨i, hi, rfl⟩ := Option.map_eq_some_iff.mp hx
        have hir := olt i (List.mem_of_getElem? hi)
        have hj := (List.getElem?_eq_some_iff.mp hi).1
        have hie : i < es.length := by omega
        obtain ⟨xr, hxr, oxr⟩ := OdAll.get op3 (i := i) (d := rowP rows[i]) (by rw [List.getElem?_map, List.getElem?_eq_getElem hir]; rfl)
        obtain ⟨b, bx, rfl, eb, ob⟩ := od_tup oxr
        match bx, ob with
        | [wv, pv], .cons o1 (.cons o2 .nil) =>
        cases o1
        refine ⟨wipe1, ?_⟩
        unfold tYes
        dsimp only
        rw [if_pos rfl]
        refine ⟨_, rfl, _, rfl, ea, _, (i : Nat), _, rfl, rfl, SqL.of (sx _ _ eE3), atI_nat (by rw [List.getElem?_map, List.getElem?_eq_getElem hie]; rfl), _, rfl, _, rfl, _, rfl, pa, _, (i : Nat), _, rfl, rfl, SqT.of (sx _ _ ep3), atI_nat hxr, b, _, 0, _, rfl, rfl, SqT.of (sx _ _ eb), rfl, ?_⟩
        refine ⟨rfl, by show 3 ≤ sizeLine; omega, fun t ht => ?_⟩
        have eb' : decide (V.str rows[i].1 = V.str (Str.ofString "bar")) = ((rows.getD i ("", "")).1 == barS) := by
          rw [List.getD_eq_getElem?_getD, List.getElem?_eq_getElem hir, Bool.eq_iff_iff, decide_eq_true_eq, beq_iff_eq]
          exact ⟨fun h => by injection h, fun h => congrArg V.str h⟩
        have ee' : es[i] = es.getD i 0 := by rw [List.getD_eq_getElem?_getD, List.getElem?_eq_getElem hie]; rfl
        rw [eb', ee']
        have st := same_upd (o := HO.tup [V.int (es.getD i 0), V.int (i : Nat), V.bl ((rows.getD i ("", "")).1 == barS)]) ht
        refine ⟨us, st _ _ eu, by omega, same_into h2 (sx.trans st), ⟨_, upd_same, by rw [List.length_append, lu]; rfl⟩, ?_⟩
        rw [List.take_add_one, hi, List.map_append]
        exact (lt.same st).put (st _ _ eu) (.tup upd_same (.cons (.int _) (.cons (.int _) (.cons (.bl _) .nil)))) rfl
      · rintro Hx ⟨sx, ⟨us, eu, lu⟩, lt⟩
        rw [List.length_map] at lu
        rw [List.length_map, List.take_of_length_le (Nat.le_refl _)] at lt
        obtain ⟨vs, ev, ov, _⟩ := id lt
        rw [eu] at ev
        cases ev
        exact k D2 us Hx (fun b o n e => sx _ _ (x4 _ _ n e)) (t3.ext sx) eu ov
end
end KP

set_option Elab.async false
set_option maxRecDepth 100000
set_option maxHeartbeats 4000000
set_option linter.all false
/-! Ours: the law's draws: the well, a pick, one of some things, one sign of a text. -/
namespace KP
open PySem PySem.Spec PyProof.Rows L2 Gr GxR
/-- a well stands at p -/
def Well (H : Hp) (p : Addr) : Prop := ∃ d m c : Int, H p = some (.lst [.int d, .int m, .int c])
/-- all is as it was but what stands at p -/
def But (H H' : Hp) (p : Addr) : Prop := ∀ b o, H b = some o → b ≠ p → H' b = some o
theorem But.trans {H H1 H2 : Hp} {p : Addr} (a : But H H1 p) (b : But H1 H2 p) : But H H2 p := fun c o h n => b c o (a c o h n) n
theorem But.refl (H : Hp) (p : Addr) : But H H p := fun _ _ h _ => h

def spPick : Sp := fun vs H Q _ => ∃ (p : Addr) (t : Int), vs = [.ref p, .int t] ∧ Well H p ∧ 0 < t ∧ t < 1073741824 ∧
  ∀ (r : Int) (H' : Hp), 0 ≤ r → r < t → Well H' p → But H H' p → Q (.int r) H'

section
variable {P : Program} {w : World} {K : PySem.W.Frag} {mg : Str → Option Value} {base : Heap}
theorem scP : FnScope ["_law_well_here", "_law_top", "_law_digit"] ["_law_well_here", "_law_top"] (defScope s_l_pick) := ⟨rfl, rfl, rfl, by decide +kernel, rfl, by decide +kernel, by decide +kernel⟩
theorem ok_l_pick (T : D K mg) : FnOk P w K mg base CX0 1 T.f_l_pick T.d_l_pick ["_law_well_here", "_law_top"] spPick := by
  refine T.U_l_pick.ok scP (fun vs H Q E h => ?_) (fun cdv A outer s H vs Q E hr h => ?_)
  · obtain ⟨p, t, rfl, _⟩ := h
    rfl
  · obtain ⟨p, t, rfl, ⟨d, m, c, hp⟩, ht, ht2, k⟩ := h
    refine ⟨_, pss_cons (ps_if (pt_cmpR op_gt (pe_ix ix_list (pv 0) pe_int (fun _ _ => rfl)) pe_int (nomark _))
        (pss_cons (ps_asg (pe_callB call_divmod (by rfl) T.divmod boot_divmod (pa_cons (pe_ix ix_list (pv 0) pe_int (fun _ _ => rfl)) (pa_cons (pv 1) pa_nil)))
          (pg_tup rfl (pgs_cons (pg_sub (pv 0) pe_int set_list) (pgs_cons (pg_name (i := 2) scP.nd rfl (.inl rfl)) pgs_nil))))
        (pss_one (ps_ret (pv 2)))) pss_nil)
      (pss_cons (ps_asg (pe_op op_add (pe_ix ix_list (pv 0) pe_int (fun _ _ => rfl)) pe_int) (pg_sub (pv 0) pe_int set_list))
      (pss_cons (ps_asg (pe_op op_mod (pe_callTy call_int1 (by rfl) T.int PyProof.Rows.boot_int (pa_cons (pe_op op_add (pe_op op_mul (pe_ix ix_list (pv 0) pe_int (fun _ _ => rfl)) pe_int)
          (pe_op op_mul pe_int (pe_ix ix_list (pv 0) pe_int (fun _ _ => rfl)))) pa_nil)) pe_int) (pg_sub (pv 0) pe_int set_list))
      (pss_one (ps_ret (pe_op op_mod (pe_callTy call_int1 (by rfl) T.int PyProof.Rows.boot_int (pa_cons (pe_op op_fdiv (pe_ix ix_list (pv 0) pe_int (fun _ _ => rfl)) pe_int) pa_nil)) (pv 1)))))), ?_⟩
    have a0 : ∀ x y z : V, atI [x, y, z] (0 : Int) = some x := fun _ _ _ => rfl
    have a1 : ∀ x y z : V, atI [x, y, z] (1 : Int) = some y := fun _ _ _ => rfl
    have a2 : ∀ x y z : V, atI [x, y, z] (2 : Int) = some z := fun _ _ _ => rfl
    refine ⟨_, rfl, p, _, 0, _, rfl, rfl, SqL.of hp, a0 _ _ _, d, 0, rfl, rfl, _, rfl, ?_⟩
    refine ite2 (fun hd => ?_) (fun hd => ?_)
    · refine ⟨_, rfl, p, _, 0, _, rfl, rfl, SqL.of hp, a0 _ _ _, _, rfl, d, t, rfl, ⟨ht, ht2⟩, fun q hq => ?_⟩
      have nq : p ≠ q := ne_of_none hp hq
      refine ⟨q, _, rfl, .inl (.inl upd_same), rfl, _, _, rfl, ?_⟩
      refine ⟨_, rfl, p, _, 0, 0, rfl, rfl, (by rw [upd_ne nq]; exact hp), rfl, ?_⟩
      refine ⟨_, _, rfl, rfl, ?_⟩
      refine ⟨_, rfl, k (d % t) _ (Int.emod_nonneg _ (by omega)) (Int.emod_lt_of_pos _ ht) ⟨d / t, m, c, upd_same⟩ fun b o e n => ?_⟩
      rw [upd_ne n, upd_ne (ne_of_none e hq)]
      exact e
    · refine ⟨_, rfl, p, _, 2, _, rfl, rfl, SqL.of hp, a2 _ _ _, c, 1, rfl, rfl, _, rfl, p, _, 2, 2, rfl, rfl, hp, rfl, ?_⟩
      refine ⟨_, rfl, p, _, 1, _, rfl, rfl, SqL.of upd_same, a1 _ _ _, m, 48271, rfl, rfl, .inr (by decide), _, rfl, p, _, 2, _, rfl, rfl, SqL.of upd_same, a2 _ _ _, 1013, c + 1, rfl, rfl, .inl (by decide), _, _, rfl, rfl, .inl ⟨_, rfl, _, _, rfl, rfl, (by show (0 : Int) < 2038074743; decide), ?_⟩⟩
      refine ⟨_, rfl, p, _, 1, 1, rfl, rfl, upd_same, rfl, ?_⟩
      refine ⟨_, rfl, p, _, 1, _, rfl, rfl, SqL.of upd_same, a1 _ _ _, _, 23, rfl, rfl, ⟨by decide, by decide⟩, .inl ⟨_, rfl, _, rfl, _, t, rfl, rfl, ht, ?_⟩⟩
      refine k _ _ (Int.emod_nonneg _ (by omega)) (Int.emod_lt_of_pos _ ht) ⟨_, _, _, upd_same⟩ fun b o e n => ?_
      rw [upd_ne n, upd_ne n]
      exact e
end
def spOne : Sp := fun vs H Q _ => ∃ (p q : Addr) (xs : List V), vs = [.ref p, .ref q] ∧ Well H p ∧ H q = some (.lst xs) ∧ q ≠ p ∧ 0 < xs.length ∧ xs.length ≤ 1000 ∧
  ∀ (i : Nat) (v : V) (H' : Hp), xs[i]? = some v → Well H' p → But H H' p → Q v H'
def spWell (K : PySem.W.Frag) : Sp := fun vs H Q _ => ∃ (a : Addr) (ns : List Int) (t : Int), vs = [.ref a, .int t] ∧ SqL K H a (ns.map V.int) ∧ 0 ≤ t ∧ ns.length ≤ 1000 ∧
  ∀ (q : Addr) (H' : Hp), H q = none → Well H' q → Same H H' → Q (.ref q) H'

section
variable {P : Program} {w : World} {K : PySem.W.Frag} {mg : Str → Option Value} {base : Heap}
theorem scO : FnScope ["_law_well_here", "_law_some"] ["_law_well_here", "_law_some"] (defScope s_l_one) := ⟨rfl, rfl, rfl, by decide +kernel, rfl, by decide +kernel, by decide +kernel⟩
theorem ok_l_one (T : D K mg) :
    FnOk P w K mg base CX0 2 T.f_l_one T.d_l_one ["_law_well_here", "_law_some"] spOne := by
  refine T.U_l_one.ok scO (fun vs H Q E h => ?_) (fun cdv A outer s H vs Q E hr h => ?_)
  · obtain ⟨p, q, xs, rfl, _⟩ := h
    rfl
  · obtain ⟨p, q, xs, rfl, hp, hq, nq, h0, h1, k⟩ := h
    refine ⟨_, pss_one (ps_ret (pe_ix ix_list (pv 1) (pe_call (ok_l_pick T) hr rfl T.g_l_pick T.U_l_pick.kp T.b_l_pick .nil pass0 (pa_cons (pv 0) (pa_cons (pe_callB call_len_seq (by rfl) T.len PySem.boot_len (pa_cons (pv 1) pa_nil)) pa_nil))) (fun _ _ => rfl))), ?_⟩
    refine ⟨_, rfl, _, rfl, _, rfl, q, xs, rfl, .inl (SqL.of hq), p, (xs.length : Int), rfl, hp, by omega, by omega, fun r H' r0 r1 hw hb => ?_⟩
    have hlt : r.toNat < xs.length := by omega
    have e : atI xs r = some (xs[r.toNat]) := by
      have := atI_nat (xs := xs) (j := r.toNat) (List.getElem?_eq_getElem hlt)
      rw [Int.toNat_of_nonneg r0] at this
      exact this
    exact ⟨q, xs, r, _, rfl, rfl, SqL.of (hb _ _ hq nq), e, k r.toNat _ H' (List.getElem?_eq_getElem hlt) hw hb⟩

theorem scW : FnScope ["_law_script", "_law_turn", "_law_mixed", "_law_each", "_law_cell", "_law_digits"] ["_law_script", "_law_turn"] (defScope s_l_well) := ⟨rfl, rfl, rfl, by decide +kernel, rfl, by decide +kernel, by decide +kernel⟩
theorem ok_l_well (T : D K mg) : FnOk P w K mg base CX0 1 T.f_l_well T.d_l_well ["_law_script", "_law_turn"] (spWell K) := by
  refine T.U_l_well.ok scW (fun vs H Q E h => ?_) (fun cdv A outer s H vs Q E hr h => ?_)
  · obtain ⟨a, ns, t, rfl, _⟩ := h
    rfl
  · obtain ⟨a, ns, t, rfl, hS, h0, hl, k⟩ := h
    refine ⟨_, pss_cons (ps_set (i := 2) scW.nd rfl (.inl rfl) (pe_op op_add pe_int (pe_op op_mul pe_int (pv 1))))
      (pss_cons (ps_for PassesOwn.never rfl (pi_list (pe_slice sl_list (pv 0) po_none (po_some pe_int))) (pg_name (i := 3) scW.nd rfl (.inl rfl))
        (pss_one (ps_set (i := 2) scW.nd rfl (.inl rfl) (pe_op op_mod (pe_callTy call_int1 (by rfl) T.int PyProof.Rows.boot_int (pa_cons
          (pe_op op_add (pe_op op_add (pe_op op_mul (pv 2) pe_int) (pe_op op_mul (pe_op op_mod (pe_callTy call_int1 (by rfl) T.int PyProof.Rows.boot_int (pa_cons (pv 3) pa_nil)) pe_int) pe_int)) pe_int) pa_nil)) pe_int))))
      (pss_cons (ps_set (i := 4) scW.nd rfl (.inl rfl) (pe_ifExp (pt_cmpR op_lt (pv 1) (pe_callB call_len_seq (by rfl) T.len PySem.boot_len (pa_cons (pv 0) pa_nil)) (nomark _))
        (pe_callTy call_int1 (by rfl) T.int PyProof.Rows.boot_int (pa_cons (pe_ix ix_list (pv 0) (pv 1) (fun _ _ => rfl)) pa_nil)) (pv 2)))
      (pss_cons (ps_set (i := 5) scW.nd rfl (.inl rfl) (pe_ifExp (pt_cmpR op_ge (pe_callB call_abs (by rfl) T.abs PyProof.Rows.boot_abs (pa_cons (pv 4) pa_nil)) (pe_op op_pow pe_int pe_int) (nomark _))
        (pe_callB call_abs (by rfl) T.abs PyProof.Rows.boot_abs (pa_cons (pv 4) pa_nil)) pe_int))
      (pss_cons (ps_set (i := 2) scW.nd rfl (.inl rfl) (pe_op op_mod (pe_callTy call_int1 (by rfl) T.int PyProof.Rows.boot_int (pa_cons
          (pe_op op_add (pe_op op_add (pe_op op_mul (pv 2) pe_int) (pe_op op_mul (pe_op op_mod (pe_callTy call_int1 (by rfl) T.int PyProof.Rows.boot_int (pa_cons (pv 4) pa_nil)) pe_int) pe_int)) pe_int) pa_nil)) pe_int))
      (pss_one (ps_ret (pe_lst (pa_cons (pv 5) (pa_cons (pv 2) (pa_cons pe_int pa_nil)))))))))), ?_⟩
    refine ⟨_, rfl, 5003, t, rfl, rfl, .inl (by decide), _, _, rfl, rfl, ?_⟩
    refine ⟨_, rfl, 9, rfl, a, _, rfl, hS, fun p0 hp0 => ?_⟩
    have s0 : Same H (upd H p0 (.lst (cutV (ns.map V.int) none (some 9)))) := fun b o e => by
      rw [upd_ne (ne_of_none e hp0)]
      exact e
    have cutInt : ∀ (i : Nat) (y : V), (cutV (ns.map V.int) none (some 9))[i]? = some y → ∃ z, y = V.int z := fun i y hy => by
      have hm := List.mem_of_mem_drop (List.mem_of_mem_take (List.mem_of_getElem? hy))
      obtain ⟨z, _, e⟩ := List.mem_map.mp hm
      exact ⟨z, e.symm⟩
    refine ⟨p0, rfl, ⟨_, SqL.of upd_same⟩, for_list (K := K) (a := p0) (xs := cutV (ns.map V.int) none (some 9))
      (fun i σ H2 => ∃ (m : Int) (v : Option V), σ = [some (.ref a), some (.int t), some (.int m), v, none, none] ∧ H2 = upd H p0 (.lst (cutV (ns.map V.int) none (some 9))))
      ⟨_, none, rfl, rfl⟩ (fun i σ H2 _ ⟨_, _, _, e⟩ => by rw [e]; exact SqL.of upd_same) ?_ ?_⟩
    · rintro i y σ H2 hi ⟨m, v, rfl, rfl⟩
      obtain ⟨z, rfl⟩ := cutInt i y hi
      have hP : (0 : Int) < 2038074743 := by decide
      exact ⟨_, rfl, m, 30011, rfl, rfl, .inr (by decide), _, rfl, .inl ⟨z, rfl, z, 2038074743, rfl, rfl, hP, _, 7001, rfl, rfl, .inr (by decide), _, _, rfl, rfl, _, 13, rfl, rfl,
        .inl ⟨_, rfl, _, 2038074743, rfl, rfl, hP, _, _, rfl, rfl⟩⟩⟩
    · rintro σ H2 ⟨m, v, rfl, rfl⟩
      have hP : (0 : Int) < 2038074743 := by decide
      refine ⟨_, rfl, _, rfl, a, _, rfl, .inl (s0.seq hS), t, _, rfl, rfl, _, rfl, ?_⟩
      refine ite2 (fun hlt => ?_) (fun _ => ?_)
      · have hlt' : t < ((ns.map V.int).length : Int) := of_decide_eq_true hlt
        rw [List.length_map] at hlt'
        have hj : t.toNat < (ns.map V.int).length := by
          rw [List.length_map]
          omega
        have e : atI (ns.map V.int) t = some (.int (ns[t.toNat]'(by omega))) := by
          have q := atI_nat (xs := ns.map V.int) (j := t.toNat) (List.getElem?_eq_getElem hj)
          rw [Int.toNat_of_nonneg h0, List.getElem_map] at q
          exact q
        refine ⟨_, rfl, _, rfl, a, _, t, _, rfl, rfl, s0.seq hS, e, .inl ⟨_, rfl, ?_⟩⟩
        refine ⟨_, rfl, _, rfl, 10, 18, rfl, rfl, ⟨by decide, by decide, by decide⟩, _, _, rfl, rfl, _, rfl, ?_⟩
        refine ite2 (fun _ => ?_) (fun _ => ?_)
        · refine ⟨_, rfl, _, rfl, ?_⟩
          exact ⟨_, rfl, _, 16807, rfl, rfl, .inr (by decide), _, rfl, .inl ⟨_, rfl, _, 2038074743, rfl, rfl, hP, _, 39373, rfl, rfl, .inr (by decide), _, _, rfl, rfl, _, 29, rfl, rfl,
            .inl ⟨_, rfl, _, 2038074743, rfl, rfl, hP, _, rfl, _, rfl, by show 3 ≤ sizeLine; decide, fun p1 hp1 => k p1 _ (s0.free hp1) ⟨_, _, _, upd_same⟩ (s0.trans fun b o e => by rw [upd_ne (ne_of_none e hp1)]; exact e)⟩⟩⟩
        · exact ⟨_, rfl, _, 16807, rfl, rfl, .inr (by decide), _, rfl, .inl ⟨_, rfl, _, 2038074743, rfl, rfl, hP, _, 39373, rfl, rfl, .inr (by decide), _, _, rfl, rfl, _, 29, rfl, rfl,
            .inl ⟨_, rfl, _, 2038074743, rfl, rfl, hP, _, rfl, _, rfl, by show 3 ≤ sizeLine; decide, fun p1 hp1 => k p1 _ (s0.free hp1) ⟨_, _, _, upd_same⟩ (s0.trans fun b o e => by rw [upd_ne (ne_of_none e hp1)]; exact e)⟩⟩⟩
      · refine ⟨_, rfl, ?_⟩
        refine ⟨_, rfl, _, rfl, 10, 18, rfl, rfl, ⟨by decide, by decide, by decide⟩, _, _, rfl, rfl, _, rfl, ?_⟩
        refine ite2 (fun _ => ?_) (fun _ => ?_)
        · refine ⟨_, rfl, _, rfl, ?_⟩
          exact ⟨_, rfl, _, 16807, rfl, rfl, .inr (by decide), _, rfl, .inl ⟨_, rfl, _, 2038074743, rfl, rfl, hP, _, 39373, rfl, rfl, .inr (by decide), _, _, rfl, rfl, _, 29, rfl, rfl,
            .inl ⟨_, rfl, _, 2038074743, rfl, rfl, hP, _, rfl, _, rfl, by show 3 ≤ sizeLine; decide, fun p1 hp1 => k p1 _ (s0.free hp1) ⟨_, _, _, upd_same⟩ (s0.trans fun b o e => by rw [upd_ne (ne_of_none e hp1)]; exact e)⟩⟩⟩
        · exact ⟨_, rfl, _, 16807, rfl, rfl, .inr (by decide), _, rfl, .inl ⟨_, rfl, _, 2038074743, rfl, rfl, hP, _, 39373, rfl, rfl, .inr (by decide), _, _, rfl, rfl, _, 29, rfl, rfl,
            .inl ⟨_, rfl, _, 2038074743, rfl, rfl, hP, _, rfl, _, rfl, by show 3 ≤ sizeLine; decide, fun p1 hp1 => k p1 _ (s0.free hp1) ⟨_, _, _, upd_same⟩ (s0.trans fun b o e => by rw [upd_ne (ne_of_none e hp1)]; exact e)⟩⟩⟩
end

/-- one sign of a text -/
def spOneS : Sp := fun vs H Q _ => ∃ (p : Addr) (z : Str), vs = [.ref p, .str z] ∧ Well H p ∧ 0 < z.length ∧ z.length ≤ 1000 ∧
  ∀ (c : Nat) (H' : Hp), c ∈ z.cps.toList → Well H' p → But H H' p → Q (.str ⟨#[c]⟩) H'
section
variable {P : Program} {w : World} {K : PySem.W.Frag} {mg : Str → Option Value} {base : Heap}
theorem ok_l_oneS (T : D K mg) : FnOk P w K mg base CX0 2 T.f_l_one T.d_l_one ["_law_well_here", "_law_some"] spOneS := by
  refine T.U_l_one.ok scO (fun vs H Q E h => ?_) (fun cdv A outer s H vs Q E hr h => ?_)
  · obtain ⟨p, z, rfl, _⟩ := h
    rfl
  · obtain ⟨p, z, rfl, hp, h0, h1, k⟩ := h
    refine ⟨_, pss_one (ps_ret (pe_ix ix_str (pv 1) (pe_call (ok_l_pick T) hr rfl T.g_l_pick T.U_l_pick.kp T.b_l_pick .nil pass0 (pa_cons (pv 0) (pa_cons (pe_callB call_len_str (by rfl) T.len PySem.boot_len (pa_cons (pv 1) pa_nil)) pa_nil))) (fun _ _ => rfl))), ?_⟩
    refine ⟨_, rfl, _, rfl, _, rfl, z, rfl, Nat.le_trans h1 (by decide), ?_⟩
    refine ⟨p, _, rfl, hp, by omega, by omega, fun r H' r0 r1 hw hb => ?_⟩
    have hlt : r.toNat < z.cps.toList.length := by
      have e : z.cps.toList.length = z.length := rfl
      omega
    have e : atI z.cps.toList r = some (z.cps.toList[r.toNat]) := by
      have := atI_nat (xs := z.cps.toList) (j := r.toNat) (List.getElem?_eq_getElem hlt)
      rw [Int.toNat_of_nonneg r0] at this
      exact this
    exact ⟨z, r, _, rfl, rfl, Nat.le_trans h1 (by decide), e, k _ H' (List.getElem_mem hlt) hw hb⟩
end
end KP

set_option Elab.async false
set_option maxRecDepth 100000
set_option maxHeartbeats 4000000
set_option linter.all false
/-! Ours: paths and patterns of texts. -/
namespace KP
open PySem PySem.Spec PyProof.Rows L2 Gr GxR
def SGs : Str := "-./0123456789_abcdefghijklmnopqrstuvwxyz"
def SG : List Nat := SGs.cps.toList
def isPath (z : Str) : Bool := z.cps.toList[0]? == some 47 && z.cps.toList.all (fun c => decide (c ∈ SG))
def innerOf (z : Str) : List Nat := if z.cps.toList.getLast? == some 36 then z.cps.toList.dropLast else z.cps.toList
def isPat (z : Str) : Bool := (decide (1 ≤ z.length) && decide (z.length ≤ 12)) && ((innerOf z)[0]? == some 47 && (innerOf z).all (fun c => c == 42 || decide (c ∈ SG)))
theorem gens_mk {env : Env} {scope : Scope} {x : Str} (h1 : scope.kind = .function) (h2 : scope.isCoroutine = false) (h3 : ∀ y ∈ scope.names, y.2 ≠ .cell) (h4 : scope.names.lookup (".0" : Str) = some NameKind.local) (h5 : scope.names.lookup x = some .local)
    (h6 : ∀ y ∈ scope.names, y.2 ≠ .free) : GenS env scope x := ⟨h1, h2, h3, h4, h5, fun y hy e => absurd e (h6 y hy)⟩
theorem Tabbed.refl {P : Addr} {H : Hp} (h : TabG H P) : Tabbed P H H := ⟨h, fun _ _ => rfl⟩
theorem Tabbed.trans {P : Addr} {H H1 H2 : Hp} (a : Tabbed P H H1) (b : Tabbed P H1 H2) : Tabbed P H H2 := ⟨b.1, fun x n => (b.2 x n).trans (a.2 x n)⟩
structure Tabs {K : PySem.W.Frag} {mg : Str → Option Value} (base : Heap) (T : D K mg) : Prop where
  a : TabB base mg T.c_is_path T.P_is_path
  b : TabB base mg T.c_is_pattern T.P_is_pattern
/-- both tables stand -/
def TT2 {K : PySem.W.Frag} {mg : Str → Option Value} (T : D K mg) (H : Hp) : Prop := TabG H T.P_is_path ∧ TabG H T.P_is_pattern
/-- but for the tables all is as it was -/
def Up {K : PySem.W.Frag} {mg : Str → Option Value} (T : D K mg) (H H' : Hp) : Prop := TT2 T H' ∧ ∀ b, b ≠ T.P_is_path → b ≠ T.P_is_pattern → ∀ o, H b = some o → H' b = some o
def spIsPath (Pt : Addr) : Sp := fun vs H Q _ => ∃ z, vs = [.str z] ∧ TabG H Pt ∧ ∀ H', Tabbed Pt H H' → Q (.bl (isPath z)) H'
def spIsPat (Pt : Addr) : Sp := fun vs H Q _ => ∃ z, vs = [.str z] ∧ z.length ≤ 1000 ∧ TabG H Pt ∧ ∀ H', Tabbed Pt H H' → Q (.bl (isPat z)) H'
def spChkPath (Pt : Addr) : Sp := fun vs H Q _ => ∃ z, vs = [.str z] ∧ isPath z = true ∧ TabG H Pt ∧ ∀ H', Tabbed Pt H H' → Q .non H'
def spChkPat (Pt : Addr) : Sp := fun vs H Q _ => ∃ z, vs = [.str z] ∧ isPat z = true ∧ TabG H Pt ∧ ∀ H', Tabbed Pt H H' → Q .non H'
theorem isPat_len {z : Str} (h : isPat z = true) : 1 ≤ z.length ∧ z.length ≤ 12 := by
  unfold isPat at h
  rw [Bool.and_eq_true, Bool.and_eq_true, decide_eq_true_eq, decide_eq_true_eq] at h
  exact h.1
section
variable {P : Program} {w : World} {K : PySem.W.Frag} {mg : Str → Option Value} {base : Heap}
theorem sc_is_path : FnScope ["value"] ["value"] (defScope s_is_path) := ⟨rfl, rfl, rfl, by decide +kernel, rfl, by decide +kernel, by decide +kernel⟩
theorem ok_is_path (T : D K mg) (TB : Tabs base T) : FnOk P w K mg base CX0 2 T.f_is_path T.d_is_path ["value"] (spIsPath T.P_is_path) := by
  refine T.V_is_path.ok sc_is_path (fun vs H Q E h => ?_) (fun A outer s H vs Q E hr h => ?_)
  · obtain ⟨z, rfl, _⟩ := h
    rfl
  · obtain ⟨z, rfl, hT, k⟩ := h
    refine ⟨_, pss_cons (ps_if (PW.pt (pw_or (pt_not (pt_val (pe_callB call_isi (by rfl) T.isinstance (by decide +kernel) (pa_cons (pv 0) (pa_cons (pe_bltn (v := .ty "str") (by rfl) T.str (by decide +kernel) rfl) pa_nil))))) (pw_or1 (pt_not (pt_val (pe_m1 PySem.F.slot_str_startswith PySem.F.type_str_startswith mt_startswith (pv 0) pe_str))))))
        (pss_one (ps_ret pe_bl))
        (pss_nil))
      (pss_one (ps_ret (pe_allG (pb := fun c => decide (c ∈ SG)) hr (by rfl) T.all TB.a rfl (gens_mk rfl rfl (by decide +kernel) (by rfl) (by rfl) (by decide +kernel)) (pv 0) (eg_in (y := SGs) rfl (by rfl) (by rfl) T.g_SIGNS) (fun _ => rfl)))), ?_⟩
    refine ⟨_, rfl, _, _, _, _, true, rfl, .ty _, .base (.str z), kit_ty (by decide +kernel), _, rfl, iteF ?_⟩
    refine ⟨_, rfl, ⟨z, rfl⟩, z, _, rfl, rfl, _, rfl, ?_⟩
    have e : Txt.startswith z "/" = (z.cps.toList[0]? == some 47) := by rw [lit_slash, tx_starts]
    rw [e]
    cases hq : z.cps.toList[0]? == some 47 with
    | false =>
      refine iteT ?_
      have : isPath z = false := by unfold isPath; rw [hq]; rfl
      rw [← this]
      exact k H (Tabbed.refl hT)
    | true =>
      refine iteF ⟨_, rfl, z, rfl, hT, fun H2 h2 => ?_⟩
      have : isPath z = z.cps.toList.all (fun c => decide (c ∈ SG)) := by unfold isPath; rw [hq]; rfl
      have q := k H2 h2
      rw [this] at q
      exact q
theorem sc_check_path : FnScope ["given"] ["given"] (defScope s_check_path) := ⟨rfl, rfl, rfl, by decide +kernel, rfl, by decide +kernel, by decide +kernel⟩
theorem ok_check_path (T : D K mg) (TB : Tabs base T) : FnOk P w K mg base CX0 3 T.f_check_path T.d_check_path ["given"] (spChkPath T.P_is_path) := by
  refine T.U_check_path.ok sc_check_path (fun vs H Q E h => ?_) (fun cdv A outer s H vs Q E hr h => ?_)
  · obtain ⟨z, rfl, _⟩ := h
    rfl
  · obtain ⟨z, rfl, hz, hT, k⟩ := h
    refine ⟨_, pss_one (ps_if (pt_not (pt_val (pe_call (ok_is_path T TB) hr rfl T.g_is_path T.U_is_path.kp T.b_is_path .nil pass0 (pa_cons (pv 0) pa_nil))))
        (pss_one ps_never)
        pss_nil), ?_⟩
    refine ⟨_, rfl, z, rfl, hT, fun H' h' => ⟨_, rfl, ?_⟩⟩
    rw [hz]
    exact iteF (k H' h')
theorem sc_is_pattern : FnScope ["value", "inner"] ["value"] (defScope s_is_pattern) := ⟨rfl, rfl, rfl, by decide +kernel, rfl, by decide +kernel, by decide +kernel⟩
theorem ok_is_pattern (T : D K mg) (TB : Tabs base T) : FnOk P w K mg base CX0 2 T.f_is_pattern T.d_is_pattern ["value"] (spIsPat T.P_is_pattern) := by
  refine T.V_is_pattern.ok sc_is_pattern (fun vs H Q E h => ?_) (fun A outer s H vs Q E hr h => ?_)
  · obtain ⟨z, rfl, _⟩ := h
    rfl
  · obtain ⟨z, rfl, hl, hT, k⟩ := h
    have nd := sc_is_pattern.nd
    have hz : z.length ≤ sizeLine := Nat.le_trans hl (by decide)
    refine ⟨_, pss_cons (ps_if (PW.pt (pw_or (pt_not (pt_val (pe_callB call_isi (by rfl) T.isinstance (by decide +kernel) (pa_cons (pv 0) (pa_cons (pe_bltn (v := .ty "str") (by rfl) T.str (by decide +kernel) rfl) pa_nil))))) (pw_or1 (pt_not (pt_chain op_le op_le pe_int (pe_callB call_len_str (by rfl) T.len PySem.boot_len (pa_cons (pv 0) pa_nil)) (pe_glob (v := .int 12) rfl T.g_LONGEST_PATTERN ⟨_, rfl⟩))))))
        (pss_one (ps_ret pe_bl))
        (pss_nil))
      (pss_cons (ps_set (i := 1) nd rfl (.inl rfl) (pe_bm PySem.F.plainAttrs_str PySem.F.slot_str_removesuffix PySem.F.type_str_removesuffix mt_removesuffix (pv 0) (pa_cons pe_str pa_nil)))
      (pss_one (ps_ret (pe_and (pe_m1 PySem.F.slot_str_startswith PySem.F.type_str_startswith mt_startswith (pv 1) pe_str) (pe_one
        (pe_allG (pb := fun c => ([c] == ("*" : Str).cps.toList) || decide (c ∈ SG)) hr (by rfl) T.all TB.b rfl (gens_mk rfl rfl (by decide +kernel) (by rfl) (by rfl) (by decide +kernel)) (pv 1) (eg_or (eg_eq rfl (by rfl)) (eg_in (y := SGs) rfl (by rfl) (by rfl) T.g_SIGNS)) (fun _ => rfl))))))), ?_⟩
    refine ⟨_, rfl, _, _, _, _, true, rfl, .ty _, .base (.str z), kit_ty (by decide +kernel), _, rfl, iteF ?_⟩
    refine ⟨_, rfl, _, rfl, hz, _, _, rfl, rfl, _, rfl, ?_⟩
    have bad : (decide (1 ≤ z.length) && decide (z.length ≤ 12)) = false → isPat z = false := fun e => by unfold isPat; rw [e]; rfl
    have out : isPat z = false → Q (.bl false) H := fun e => by
      have q := k H (Tabbed.refl hT)
      rw [e] at q
      exact q
    have d1 : decide ((1 : Int) ≤ (z.length : Nat)) = decide (1 ≤ z.length) := by
      apply decide_eq_decide.mpr
      omega
    have d2 : decide (((z.length : Nat) : Int) ≤ 12) = decide (z.length ≤ 12) := by
      apply decide_eq_decide.mpr
      omega
    rw [d1]
    cases h1 : decide (1 ≤ z.length) with
    | false => exact iteF ⟨_, rfl, iteT (out (bad (by rw [h1]; rfl)))⟩
    | true =>
      refine iteT ⟨_, _, rfl, rfl, _, rfl, ?_⟩
      rw [d2]
      cases h2 : decide (z.length ≤ 12) with
      | false => exact iteT (out (bad (by rw [h1, h2]; rfl)))
      | true =>
        refine iteF ⟨_, rfl, rfl, _, _, rfl, rfl, hz, ?_⟩
        have eI : (Txt.removesuffix z "$").cps.toList = innerOf z := by rw [lit_dollar, tx_suffix]; rfl
        have eS : Txt.startswith (Txt.removesuffix z "$") "/" = ((innerOf z)[0]? == some 47) := by rw [lit_slash, tx_starts, eI]
        have eP : isPat z = ((innerOf z)[0]? == some 47 && (innerOf z).all (fun c => c == 42 || decide (c ∈ SG))) := by unfold isPat; rw [h1, h2]; rfl
        refine ⟨_, rfl, ⟨_, rfl⟩, _, _, rfl, rfl, _, rfl, ?_⟩
        rw [eS]
        cases hq : (innerOf z)[0]? == some 47 with
        | false => exact iteF (out (by rw [eP, hq]; rfl))
        | true =>
          refine iteT ⟨_, rfl, _, rfl, hT, fun H2 t2 => ?_⟩
          have q := k H2 t2
          rw [eP, hq] at q
          have ea : ((Txt.removesuffix z "$").cps.toList.all fun c => ([c] == ("*" : Str).cps.toList) || decide (c ∈ SG)) = (innerOf z).all (fun c => c == 42 || decide (c ∈ SG)) := by
            rw [eI]
            congr 1
            funext c
            have : ([c] == ("*" : Str).cps.toList) = (c == 42) := by
              rw [lit_star]
              show ([c] == [42]) = (c == 42)
              cases hc : c == 42 <;> simp_all
            rw [this]
          show Q (.bl ((Txt.removesuffix z "$").cps.toList.all fun c => ([c] == ("*" : Str).cps.toList) || decide (c ∈ SG))) H2
          rw [ea]
          exact q
theorem sc_check_pattern : FnScope ["given"] ["given"] (defScope s_check_pattern) := ⟨rfl, rfl, rfl, by decide +kernel, rfl, by decide +kernel, by decide +kernel⟩
theorem ok_check_pattern (T : D K mg) (TB : Tabs base T) : FnOk P w K mg base CX0 3 T.f_check_pattern T.d_check_pattern ["given"] (spChkPat T.P_is_pattern) := by
  refine T.U_check_pattern.ok sc_check_pattern (fun vs H Q E h => ?_) (fun cdv A outer s H vs Q E hr h => ?_)
  · obtain ⟨z, rfl, _⟩ := h
    rfl
  · obtain ⟨z, rfl, hz, hT, k⟩ := h
    refine ⟨_, pss_one (ps_if (pt_not (pt_val (pe_call (ok_is_pattern T TB) hr rfl T.g_is_pattern T.U_is_pattern.kp T.b_is_pattern .nil pass0 (pa_cons (pv 0) pa_nil))))
        (pss_one ps_never)
        pss_nil), ?_⟩
    refine ⟨_, rfl, z, rfl, Nat.le_trans (isPat_len hz).2 (by decide), hT, fun H' h' => ⟨_, rfl, ?_⟩⟩
    rw [hz]
    exact iteF (k H' h')
/-- the body of a pattern -/
def bodyOf (z : Str) : Str := if z.cps.toList.getLast? == some 36 then cutS z none (some (-1)) else z ++ ("*" : Str)
def spBodyOf (Pt : Addr) : Sp := fun vs H Q _ => ∃ z, vs = [.str z] ∧ isPat z = true ∧ TabG H Pt ∧ ∀ H', Tabbed Pt H H' → Q (.str (bodyOf z)) H'
theorem sc_body_of : FnScope ["pattern"] ["pattern"] (defScope s_body_of) := ⟨rfl, rfl, rfl, by decide +kernel, rfl, by decide +kernel, by decide +kernel⟩
theorem ok_body_of (T : D K mg) (TB : Tabs base T) : FnOk P w K mg base CX0 4 T.f_body_of T.d_body_of ["pattern"] (spBodyOf T.P_is_pattern) := by
  refine T.U_body_of.ok sc_body_of (fun vs H Q E h => ?_) (fun cdv A outer s H vs Q E hr h => ?_)
  · obtain ⟨z, rfl, _⟩ := h
    rfl
  · obtain ⟨z, rfl, hz, hT, k⟩ := h
    refine ⟨_, pss_cons (ps_expr (pe_call (ok_check_pattern T TB) hr rfl T.g_check_pattern T.U_check_pattern.kp T.b_check_pattern .nil pass0 (pa_cons (pv 0) pa_nil)))
      (pss_cons (ps_if (pt_val (pe_m1 PySem.F.slot_str_endswith PySem.F.type_str_endswith mt_endswith (pv 0) pe_str))
        (pss_one (ps_ret (pe_slice sl_str (pv 0) po_none (po_some (pe_un un_neg pe_int)))))
        (pss_nil))
      (pss_one (ps_ret (pe_op op_add_str (pv 0) pe_str)))), ?_⟩
    refine ⟨_, rfl, z, rfl, hz, hT, fun H1 h1 => ?_⟩
    have lz := isPat_len hz
    have l12 : 13 ≤ sizeLine := by decide
    refine ⟨_, rfl, ⟨_, rfl⟩, _, _, rfl, rfl, _, rfl, ?_⟩
    have e : Txt.endswith z "$" = (z.cps.toList.getLast? == some 36) := by rw [lit_dollar, tx_ends]
    rw [e]
    have q := k H1 h1
    unfold bodyOf at q
    cases hq : z.cps.toList.getLast? == some 36 with
    | true =>
      rw [hq] at q
      refine iteT ⟨_, rfl, _, rfl, _, rfl, z, rfl, by omega, ?_⟩
      exact q
    | false =>
      rw [hq] at q
      refine iteF ⟨_, rfl, _, _, rfl, rfl, ?_, ?_⟩
      · show z.length + 1 ≤ sizeLine
        omega
      · exact q
end
end KP

set_option linter.all false
/-! Ours: the mathematics of machines of several bodies: one list of signs B (a 0 behind each body), places where it may begin. -/
namespace PM
def rowG (star : Bool) (c : Option Nat) (r : List Nat) (s : Bool) (p : Nat → Bool) : Nat → Bool
  | 0 => s || (p 0 && star)
  | k + 1 => if star then p (k + 1) || rowG star c r s p k else p k && (c == r[k]?)
/-- the place i at the first k signs of r -/
def G (B : List Nat) (st : Nat → Bool) (r : List Nat) : Nat → Nat → Bool
  | 0 => fun k => k == 0 && st 0
  | i + 1 => rowG (isSt B i) B[i]? r (st (i + 1)) (G B st r i)
theorem G_zero (B : List Nat) (st : Nat → Bool) (r : List Nat) (k : Nat) : G B st r 0 k = (k == 0 && st 0) := rfl
theorem G_succ_zero (B : List Nat) (st : Nat → Bool) (r : List Nat) (i : Nat) : G B st r (i + 1) 0 = (st (i + 1) || (G B st r i 0 && isSt B i)) := rfl
theorem G_succ (B : List Nat) (st : Nat → Bool) (r : List Nat) (i k : Nat) : G B st r (i + 1) (k + 1) = if isSt B i then G B st r i (k + 1) || G B st r (i + 1) k else G B st r i k && (B[i]? == r[k]?) := rfl
/-- ahead of all signs it stands where it may begin -/
theorem G_begin {B : List Nat} {st : Nat → Bool} (r : List Nat) (h : ∀ i, st i = true → isSt B i = false) : ∀ i, G B st r i 0 = st i
  | 0 => by rw [G_zero]; rfl
  | i + 1 => by
    rw [G_succ_zero, G_begin r h i]
    cases hs : st i
    · simp
    · rw [h i hs]
      simp
/-- only the first k signs matter -/
theorem G_local {B : List Nat} {st : Nat → Bool} {r r' : List Nat} : ∀ (i k : Nat), (∀ j, j < k → r[j]? = r'[j]?) → G B st r i k = G B st r' i k
  | 0, k, _ => rfl
  | i + 1, 0, h => by rw [G_succ_zero, G_succ_zero, G_local i 0 h]
  | i + 1, k + 1, h => by
    have h' : ∀ j, j < k → r[j]? = r'[j]? := fun j hj => h j (Nat.lt_succ_of_lt hj)
    rw [G_succ, G_succ, G_local i (k + 1) h, G_local (i + 1) k h', G_local i k h', h k (Nat.lt_succ_self k)]
def PlG (B : List Nat) (st : Nat → Bool) (r : List Nat) (k s : Nat) : Prop := ∀ i, s.testBit i = (decide (i ≤ B.length) && G B st r i k)
theorem clo_stepG {B : List Nat} {st : Nat → Bool} {r : List Nat} {k s c : Nat} (hs : PlG B st r k s) (hc : r[k]? = some c) : ∀ i, clo ((starsOf B B.length).testBit ·) ((stepped B B.length s c).testBit ·) i = (decide (i ≤ B.length) && G B st r i (k + 1))
  | 0 => by
    unfold clo
    rw [stepped_test, G_zero]
    simp
  | i + 1 => by
    have sti : (starsOf B B.length).testBit i = isSt B i := by
      unfold starsOf
      rw [bits_test]
      by_cases hi : i < B.length
      · simp [hi]
      · unfold isSt
        rw [List.getElem?_eq_none (Nat.le_of_not_lt hi)]
        simp
    unfold clo
    rw [clo_stepG hs hc i, stepped_test, sti]
    simp only [Nat.succ_sub_one, Nat.zero_lt_succ, decide_true, Bool.true_and]
    rw [hs i, hs (i + 1)]
    unfold moveOf
    rw [bits_test, bits_test]
    by_cases hi : i < B.length
    · have h1 : decide (i ≤ B.length) = true := decide_eq_true (Nat.le_of_lt hi)
      have h2 : decide (i + 1 ≤ B.length) = true := decide_eq_true hi
      have h3 : decide (i < B.length) = true := decide_eq_true hi
      rw [h1, h2, h3, G_succ, hc]
      cases hst : isSt B i
      · simp
      · simp [Bool.or_comm]
    · have h2 : decide (i + 1 ≤ B.length) = false := decide_eq_false (by omega)
      have h3 : decide (i < B.length) = false := decide_eq_false hi
      have h4 : isSt B i = false := by
        unfold isSt
        rw [List.getElem?_eq_none (Nat.le_of_not_lt hi)]
        rfl
      rw [h2, h3, h4]
      simp
theorem plG_lt {B : List Nat} {st : Nat → Bool} {r : List Nat} {k s : Nat} (h : PlG B st r k s) : s < 2 ^ (B.length + 1) := lt_of_test fun i hi => by
  rw [h i, decide_eq_false (by omega)]
  rfl
theorem plG_local {B : List Nat} {st : Nat → Bool} {r r' : List Nat} {k s : Nat} (h : PlG B st r k s) (e : ∀ j, j < k → r[j]? = r'[j]?) : PlG B st r' k s := fun i => by rw [h i, G_local i k e]
/-- where a body begins it stands ahead of all signs alone -/
theorem G_start {B : List Nat} {st : Nat → Bool} {r : List Nat} {a : Nat} (h : a = 0 ∨ B[a - 1]? = some 0) (hs : st a = true) (hr : ∀ k : Nat, r[k]? ≠ some 0) : ∀ k, G B st r a k = (k == 0) := by
  cases a with
  | zero => intro k; rw [G_zero, hs, Bool.and_true]
  | succ a =>
    have h0 : B[a]? = some 0 := by
      rcases h with h | h
      · omega
      · simpa using h
    have hst : isSt B a = false := by
      unfold isSt
      rw [h0]
      rfl
    intro k
    cases k with
    | zero => rw [G_succ_zero, hs]; rfl
    | succ k =>
      rw [G_succ, hst, h0]
      have : (some 0 == r[k]?) = false := by
        rw [beq_eq_false_iff_ne]
        exact fun e => hr k e.symm
      rw [this]
      simp
/-- within a body it is the body's own table -/
theorem G_seg {B b : List Nat} {st : Nat → Bool} {r : List Nat} {a : Nat} (hb : ∀ j, j < b.length → B[a + j]? = b[j]?) (hst : ∀ j, 0 < j → j ≤ b.length → st (a + j) = false) (ha : ∀ k, G B st r a k = (k == 0)) : ∀ i k, i ≤ b.length → G B st r (a + i) k = F b r i k
  | 0, k, _ => by rw [Nat.add_zero, ha, F_zero]
  | i + 1, 0, h => by
    have e : isSt B (a + i) = isSt b i := by unfold isSt; rw [hb i h]
    rw [← Nat.add_assoc, G_succ_zero, F_succ_zero, Nat.add_assoc, hst (i + 1) (Nat.succ_pos i) h, Bool.false_or, G_seg hb hst ha i 0 (Nat.le_of_lt h), e]
  | i + 1, k + 1, h => by
    have e : isSt B (a + i) = isSt b i := by unfold isSt; rw [hb i h]
    have r1 := G_seg hb hst ha i (k + 1) (Nat.le_of_lt h)
    have r2 := G_seg hb hst ha (i + 1) k h
    have r3 := G_seg hb hst ha i k (Nat.le_of_lt h)
    rw [← Nat.add_assoc] at r2 ⊢
    rw [G_succ, F_succ, r1, r2, r3, e, hb i h]
/-- the bodies one behind the other, a 0 behind each -/
def jn : List (List Nat) → List Nat
  | [] => []
  | b :: l => b ++ 0 :: jn l
/-- where they begin, from a on -/
def fst' : Nat → List (List Nat) → List Nat
  | _, [] => []
  | a, b :: l => a :: fst' (a + b.length + 1) l
def stB (bs : List (List Nat)) (i : Nat) : Bool := decide (i ∈ fst' 0 bs)
theorem fst_ge : ∀ (l : List (List Nat)) (a : Nat), ∀ x ∈ fst' a l, a ≤ x
  | [], _, _, h => nomatch h
  | b :: l, a, x, h => by
    rcases List.mem_cons.mp h with h | h
    · omega
    · have := fst_ge l _ x h
      omega
theorem jn_len : ∀ (bs : List (List Nat)), (jn bs).length = (bs.map fun b => b.length + 1).sum
  | [] => rfl
  | b :: l => by
    show (b ++ 0 :: jn l).length = _
    rw [List.length_append, List.length_cons, jn_len l, List.map_cons, List.sum_cons]
    omega
theorem fst_len : ∀ (l : List (List Nat)) (a : Nat), (fst' a l).length = l.length
  | [], _ => rfl
  | b :: l, a => by
    show (_ :: fst' _ l).length = _
    rw [List.length_cons, List.length_cons, fst_len l]
/-- the j-th body within B -/
theorem seg_at : ∀ (l : List (List Nat)) (pre : List Nat), (pre = [] ∨ pre.getLast? = some 0) → ∀ (j : Nat) (b : List Nat) (a : Nat), l[j]? = some b → (fst' pre.length l)[j]? = some a →
    (a = 0 ∨ (pre ++ jn l)[a - 1]? = some 0) ∧ (∀ i, i < b.length → (pre ++ jn l)[a + i]? = b[i]?) ∧ (∀ i, 0 < i → i ≤ b.length → a + i ∉ fst' pre.length l) ∧ a + b.length < (pre ++ jn l).length
  | [], _, _, j, _, _, h, _ => by simp at h
  | c :: l, pre, hp, 0, b, a, hb, ha => by
    obtain rfl : c = b := by simpa using hb
    obtain rfl : pre.length = a := by
      have : (pre.length :: fst' (pre.length + c.length + 1) l)[0]? = some a := ha
      simpa using this
    refine ⟨?_, fun i hi => ?_, fun i h0 hi hm => ?_, ?_⟩
    · rcases hp with rfl | hp
      · exact .inl rfl
      · have hl : 0 < pre.length := by
          cases pre with
          | nil => simp at hp
          | cons x y => simp
        refine .inr ?_
        rw [List.getElem?_append_left (by omega), ← List.getLast?_eq_getElem?]
        exact hp
    · show (pre ++ (c ++ 0 :: jn l))[pre.length + i]? = _
      rw [List.getElem?_append_right (by omega), Nat.add_sub_cancel_left, List.getElem?_append_left hi]
    · rcases List.mem_cons.mp hm with h | h
      · omega
      · have := fst_ge l _ _ h
        omega
    · show _ < (pre ++ (c ++ 0 :: jn l)).length
      rw [List.length_append, List.length_append, List.length_cons]
      omega
  | c :: l, pre, hp, j + 1, b, a, hb, ha => by
    have e : pre ++ jn (c :: l) = (pre ++ c ++ [0]) ++ jn l := by
      show pre ++ (c ++ 0 :: jn l) = _
      simp
    have el : (pre ++ c ++ [0]).length = pre.length + c.length + 1 := by simp; omega
    have ha' : (fst' (pre ++ c ++ [0]).length l)[j]? = some a := by
      rw [el]
      have : (pre.length :: fst' (pre.length + c.length + 1) l)[j + 1]? = some a := ha
      simpa using this
    have hb' : l[j]? = some b := by simpa using hb
    obtain ⟨h1, h2, h3, h4⟩ := seg_at l (pre ++ c ++ [0]) (.inr (by simp)) j b a hb' ha'
    rw [e]
    refine ⟨h1, h2, fun i h0 hi hm => ?_, h4⟩
    rcases List.mem_cons.mp hm with h | h
    · have := fst_ge l _ a (List.mem_of_getElem? ha')
      omega
    · exact h3 i h0 hi (by rw [el]; exact h)
/-- what the end's bit tells -/
theorem end_bit {bs : List (List Nat)} {r : List Nat} {k s j a : Nat} {b : List Nat} (hs : PlG (jn bs) (stB bs) r k s) (hr : ∀ k : Nat, r[k]? ≠ some 0) (hb : bs[j]? = some b) (ha : (fst' 0 bs)[j]? = some a) : s.testBit (a + b.length) = F b r b.length k := by
  obtain ⟨h1, h2, h3, h4⟩ := seg_at bs [] (.inl rfl) j b a hb ha
  rw [hs, decide_eq_true (by exact Nat.le_of_lt h4), Bool.true_and]
  refine G_seg (B := jn bs) (fun i hi => h2 i hi) (fun i h0 hi => ?_) (G_start h1 ?_ hr) b.length k (Nat.le_refl _)
  · exact decide_eq_false (h3 i h0 hi)
  · exact decide_eq_true (List.mem_of_getElem? ha)
theorem jn_app : ∀ (l m : List (List Nat)), jn (l ++ m) = jn l ++ jn m
  | [], _ => rfl
  | b :: l, m => by
    show b ++ 0 :: jn (l ++ m) = (b ++ 0 :: jn l) ++ jn m
    rw [jn_app l m, List.append_assoc]
    rfl
theorem fst_app : ∀ (l m : List (List Nat)) (a : Nat), fst' a (l ++ m) = fst' a l ++ fst' (a + (jn l).length) m
  | [], _, _ => rfl
  | b :: l, m, a => by
    show a :: fst' (a + b.length + 1) (l ++ m) = (a :: fst' (a + b.length + 1) l) ++ fst' (a + (b ++ 0 :: jn l).length) m
    rw [fst_app l m, List.length_append, List.length_cons]
    have : a + b.length + 1 + (jn l).length = a + (b.length + ((jn l).length + 1)) := by omega
    rw [this]
    rfl
/-- the bits of the ends -/
def ends' : Nat → List (List Nat) → List Nat
  | _, [] => []
  | a, b :: l => 2 ^ (a + b.length) :: ends' (a + b.length + 1) l
theorem ends_app : ∀ (l m : List (List Nat)) (a : Nat), ends' a (l ++ m) = ends' a l ++ ends' (a + (jn l).length) m
  | [], _, _ => rfl
  | b :: l, m, a => by
    show 2 ^ (a + b.length) :: ends' (a + b.length + 1) (l ++ m) = (2 ^ (a + b.length) :: ends' (a + b.length + 1) l) ++ ends' (a + (b ++ 0 :: jn l).length) m
    rw [ends_app l m, List.length_append, List.length_cons]
    have : a + b.length + 1 + (jn l).length = a + (b.length + ((jn l).length + 1)) := by omega
    rw [this]
    rfl
theorem take_split {bs : List (List Nat)} {j : Nat} {b : List Nat} (h : bs[j]? = some b) : bs = bs.take j ++ (b :: bs.drop (j + 1)) := by
  obtain ⟨hj, e⟩ := List.getElem?_eq_some_iff.mp h
  rw [← e, ← List.drop_eq_getElem_cons hj, List.take_append_drop]
theorem take_more {bs : List (List Nat)} {j : Nat} {b : List Nat} (h : bs[j]? = some b) : bs.take (j + 1) = bs.take j ++ [b] := by
  rw [List.take_add_one, h]
  rfl
theorem pos_more {bs : List (List Nat)} {j : Nat} {b : List Nat} (h : bs[j]? = some b) : (jn (bs.take (j + 1))).length = (jn (bs.take j)).length + b.length + 1 ∧ fst' 0 (bs.take (j + 1)) = fst' 0 (bs.take j) ++ [(jn (bs.take j)).length] ∧ ends' 0 (bs.take (j + 1)) = ends' 0 (bs.take j) ++ [2 ^ ((jn (bs.take j)).length + b.length)] := by
  rw [take_more h, jn_app, fst_app, ends_app, Nat.zero_add]
  refine ⟨?_, rfl, rfl⟩
  show (jn (bs.take j) ++ (b ++ [0])).length = _
  rw [List.length_append, List.length_append, List.length_singleton]
  omega
theorem at_pos {bs : List (List Nat)} {j : Nat} {b : List Nat} (h : bs[j]? = some b) : (∀ i, i < b.length → (jn bs)[(jn (bs.take j)).length + i]? = b[i]?) ∧ (jn bs)[(jn (bs.take j)).length + b.length]? = some 0 ∧ (fst' 0 bs)[j]? = some (jn (bs.take j)).length ∧ (ends' 0 bs)[j]? = some (2 ^ ((jn (bs.take j)).length + b.length)) := by
  have hj := (List.getElem?_eq_some_iff.mp h).1
  have e : jn bs = jn (bs.take j) ++ (b ++ 0 :: jn (bs.drop (j + 1))) := by
    conv => lhs; rw [take_split h]
    rw [jn_app]
    rfl
  refine ⟨fun i hi => ?_, ?_, ?_, ?_⟩
  · rw [e, List.getElem?_append_right (by omega), Nat.add_sub_cancel_left, List.getElem?_append_left hi]
  · rw [e, List.getElem?_append_right (by omega), Nat.add_sub_cancel_left, List.getElem?_append_right (Nat.le_refl _), Nat.sub_self]
    rfl
  · have e2 : fst' 0 bs = fst' 0 (bs.take j) ++ fst' (0 + (jn (bs.take j)).length) (b :: bs.drop (j + 1)) := by
      conv => lhs; rw [take_split h]
      rw [fst_app]
    rw [e2, List.getElem?_append_right (by rw [fst_len, List.length_take]; omega), fst_len, List.length_take, Nat.min_eq_left (by omega), Nat.sub_self, Nat.zero_add]
    rfl
  · have el : ∀ (l : List (List Nat)) (a : Nat), (ends' a l).length = l.length := fun l => by
      induction l with
      | nil => intro a; rfl
      | cons b l ih => intro a; show (_ :: ends' _ l).length = _; rw [List.length_cons, List.length_cons, ih]
    have e2 : ends' 0 bs = ends' 0 (bs.take j) ++ ends' (0 + (jn (bs.take j)).length) (b :: bs.drop (j + 1)) := by
      conv => lhs; rw [take_split h]
      rw [ends_app]
    rw [e2, List.getElem?_append_right (by rw [el, List.length_take]; omega), el, List.length_take, Nat.min_eq_left (by omega), Nat.sub_self, Nat.zero_add]
    rfl
theorem sum_fst : ∀ (l : List (List Nat)) (a : Nat), (∃ q, ((fst' a l).map fun f => 2 ^ f).sum = 2 ^ a * q) ∧ ∀ i, (((fst' a l).map fun f => 2 ^ f).sum).testBit i = decide (i ∈ fst' a l)
  | [], a => ⟨⟨0, rfl⟩, fun i => by
    show (0 : Nat).testBit i = _
    rw [Nat.zero_testBit]
    exact (decide_eq_false (by intro h; cases h)).symm⟩
  | b :: l, a => by
    obtain ⟨⟨q, hq⟩, ht⟩ := sum_fst l (a + b.length + 1)
    have e : ((fst' a (b :: l)).map fun f => 2 ^ f).sum = 2 ^ a + ((fst' (a + b.length + 1) l).map fun f => 2 ^ f).sum := by
      show ((a :: fst' (a + b.length + 1) l).map fun f => 2 ^ f).sum = _
      rw [List.map_cons, List.sum_cons]
    have p1 : 2 ^ (a + b.length + 1) * q = 2 ^ (a + 1) * (2 ^ b.length * q) := by
      rw [← Nat.mul_assoc, ← Nat.pow_add]
      congr 2
      omega
    refine ⟨⟨1 + 2 * (2 ^ b.length * q), ?_⟩, fun i => ?_⟩
    · rw [e, hq, p1, Nat.pow_succ, Nat.mul_add, Nat.mul_one, Nat.mul_assoc]
    · rw [e, Nat.add_comm, hq, p1, Nat.two_pow_add_eq_or_of_lt (Nat.pow_lt_pow_right (by decide) (Nat.lt_succ_self a)), Nat.testBit_or, ← p1, ← hq, ht, testBit_pow]
      show _ = decide (i ∈ a :: fst' (a + b.length + 1) l)
      rw [Bool.eq_iff_iff]
      simp only [Bool.or_eq_true, decide_eq_true_eq, List.mem_cons]
      constructor
      · rintro (h | h)
        · exact .inr h
        · exact .inl h.symm
      · rintro (h | h)
        · exact .inr h.symm
        · exact .inl h
theorem begin_pl {bs : List (List Nat)} (h : ∀ b ∈ bs, b[0]? = some 47) (r : List Nat) : PlG (jn bs) (stB bs) r 0 ((fst' 0 bs).map fun f => 2 ^ f).sum := fun i => by
  have at_ : ∀ i, i ∈ fst' 0 bs → i ≤ (jn bs).length ∧ isSt (jn bs) i = false := fun i hi => by
    obtain ⟨j, hj, e⟩ := List.getElem_of_mem hi
    have hj2 : j < bs.length := by rw [fst_len] at hj; exact hj
    obtain ⟨h1, h2, h3, h4⟩ := seg_at bs [] (.inl rfl) j bs[j] i (List.getElem?_eq_getElem hj2) (by show (fst' 0 bs)[j]? = _; rw [List.getElem?_eq_getElem hj, e])
    have h47 := h _ (List.getElem_mem hj2)
    have hl := (List.getElem?_eq_some_iff.mp h47).1
    refine ⟨Nat.le_of_lt (Nat.lt_of_le_of_lt (Nat.le_add_right _ _) h4), ?_⟩
    have := h2 0 hl
    unfold isSt
    have e2 : (jn bs)[i]? = some 47 := by
      rw [← h47, ← this]
      rfl
    rw [e2]
    rfl
  rw [(sum_fst bs 0).2 i, G_begin (st := stB bs) r (fun i hi => (at_ i (of_decide_eq_true hi)).2)]
  unfold stB
  by_cases hm : i ∈ fst' 0 bs
  · rw [decide_eq_true hm, decide_eq_true (at_ i hm).1]
    rfl
  · rw [decide_eq_false hm, Bool.and_false]
end PM

set_option Elab.async false
set_option maxRecDepth 100000
set_option maxHeartbeats 4000000
set_option linter.all false
/-! Ours: a machine of several bodies takes one of them. -/
namespace KP
open PySem PySem.Spec PyProof.Rows L2 Gr GxR PM
theorem nor (a b : Nat) : Builtin.bitOr (a : Int) (b : Int) = ((a ||| b : Nat) : Int) := by
  rw [bitOr_nn (Int.natCast_nonneg _) (Int.natCast_nonneg _)]
  rfl
theorem nand (a b : Nat) : Builtin.bitAnd (a : Int) (b : Int) = ((a &&& b : Nat) : Int) := PySem.W.os_band a b
theorem nshl1 (a : Nat) : ((a : Int) * 2 ^ (1 : Int).toNat) = ((a * 2 : Nat) : Int) := by
  show (a : Int) * 2 ^ 1 = _
  omega
/-- a list of signs, as it stands in a text -/
abbrev bl (b : Str) : List Nat := b.cps.toList
/-- what the moves' dict tells -/
structure Kv2 (b : List Nat) (n : Nat) (kvs : List (Key × V)) : Prop where
  get : ∀ c : Nat, c ≠ 0 → (valV kvs (Sum.inr (⟨#[c]⟩ : Str))).getD (.int 0) = .int (moveOf b c n : Nat)
  key : ∀ p ∈ kvs, ∃ c ∈ SG, p.1 = Sum.inr (⟨#[c]⟩ : Str)
  nd : (kvs.map (·.1)).Nodup
theorem Kv2.nil (b : List Nat) : Kv2 b 0 [] := ⟨fun _ _ => rfl, fun p hp => (nomatch hp), .nil⟩
theorem putK_mem {kvs : List (Key × V)} {k : Key} {v : V} {p : Key × V} (h : p ∈ putK kvs k v) : p ∈ kvs ∨ p.1 = k := by
  unfold putK at h
  split at h
  · obtain ⟨q, hq, e⟩ := List.mem_map.mp h
    by_cases hk : q.1 = k
    · rw [if_pos hk] at e
      rw [← e]
      exact .inr hk
    · rw [if_neg hk] at e
      rw [← e]
      exact .inl hq
  · rcases List.mem_append.mp h with q | q
    · exact .inl q
    · rw [List.mem_singleton.mp q]
      exact .inr rfl
theorem moveOf_succ_star {b : List Nat} {n : Nat} (h : isSt b n = true) (c : Nat) : moveOf b c (n + 1) = moveOf b c n := by
  unfold moveOf
  show bits _ n ||| (if (!isSt b n && (b[n]? == some c)) = true then 2 ^ n else 0) = _
  rw [h]
  simp
theorem moveOf_succ {b : List Nat} {n d : Nat} (h : isSt b n = false) (hd : b[n]? = some d) (c : Nat) : moveOf b c (n + 1) = if c = d then moveOf b c n ||| 2 ^ n else moveOf b c n := by
  unfold moveOf
  show bits _ n ||| (if (!isSt b n && (b[n]? == some c)) = true then 2 ^ n else 0) = _
  rw [h, hd]
  by_cases hc : c = d
  · subst hc
    simp
  · have : ¬ d = c := fun e => hc e.symm
    simp [hc, this]
theorem Kv2.star {b : List Nat} {n : Nat} {kvs : List (Key × V)} (h : isSt b n = true) (k : Kv2 b n kvs) : Kv2 b (n + 1) kvs :=
  ⟨fun c hc => by rw [k.get c hc, moveOf_succ_star h], k.key, k.nd⟩
theorem nd_put {kvs : List (Key × V)} {k : Key} {v : V} (h : (kvs.map (·.1)).Nodup) : ((putK kvs k v).map (·.1)).Nodup := by
  unfold putK
  split
  · have e : (kvs.map fun kv => if kv.1 = k then (kv.1, v) else kv).map (·.1) = kvs.map (·.1) := by
      rw [List.map_map]
      refine List.map_congr_left fun kv _ => ?_
      show (if kv.1 = k then (kv.1, v) else kv).1 = kv.1
      split <;> rfl
    rw [e]
    exact h
  · rename_i hn
    rw [List.map_append, List.nodup_append]
    refine ⟨h, by simp, fun x hx y hy => ?_⟩
    obtain ⟨p, hp, rfl⟩ := List.mem_map.mp hx
    have : y = k := by simpa using hy
    intro e
    exact hn (List.any_eq_true.mpr ⟨p, hp, decide_eq_true (e.trans this)⟩)
theorem Kv2.len {b : List Nat} {n : Nat} {kvs : List (Key × V)} (k : Kv2 b n kvs) : kvs.length ≤ 40 := by
  have sub : kvs.map (·.1) ⊆ SG.map fun c => (Sum.inr (⟨#[c]⟩ : Str) : Key) := fun x hx => by
    obtain ⟨p, hp, rfl⟩ := List.mem_map.mp hx
    obtain ⟨c, hc, e⟩ := k.key p hp
    exact List.mem_map.mpr ⟨c, hc, e.symm⟩
  have := k.nd.length_le_of_subset sub
  rw [List.length_map, List.length_map] at this
  exact Nat.le_trans this (by decide +kernel)
theorem Kv2.put {b : List Nat} {n d : Nat} {kvs : List (Key × V)} (hSG : d ∈ SG) (h : isSt b n = false) (hd : b[n]? = some d) (k : Kv2 b n kvs) : Kv2 b (n + 1) (putK kvs (Sum.inr (⟨#[d]⟩ : Str)) (.int (moveOf b d n ||| 2 ^ n : Nat))) := by
  refine ⟨fun c hc0 => ?_, fun p hp => ?_, nd_put k.nd⟩
  · rw [valV_put, moveOf_succ h hd]
    by_cases hc : c = d
    · subst hc
      rw [if_pos rfl, if_pos rfl]
      rfl
    · rw [if_neg hc, if_neg (fun e => hc (one_inj.mp (Sum.inr.inj e)))]
      exact k.get c hc0
  · rcases putK_mem hp with q | q
    · exact k.key p q
    · exact ⟨d, hSG, q⟩
def FN : List Str := ["bodies", "starts", "ends", "stars", "held", "moves", "signs"]
theorem Kv2.sep {b : List Nat} {n : Nat} {kvs : List (Key × V)} (h : b[n]? = some 0) (k : Kv2 b n kvs) : Kv2 b (n + 1) kvs := by
  have h1 : isSt b n = false := by
    unfold isSt
    rw [h]
    rfl
  exact ⟨fun c hc => by rw [k.get c hc, moveOf_succ h1 h, if_neg hc], k.key, k.nd⟩
def spTake {K : PySem.W.Frag} {mg : Str → Option Value} (T : D K mg) : Sp := fun vs H Q _ => ∃ (m dx md : Addr) (b : Str) (a : Nat) (B : List Nat) (fs : List (Str × V)) (kv0 : List (Key × V)), vs = [.ref m, .str b, .int (a : Nat)] ∧ H m = some (.ins T.C_Machine dx fs) ∧ fs.lookup ("stars" : Str) = some (.int (starsOf B a : Nat)) ∧ fs.lookup ("held" : Str) = some (.int (heldOf B a : Nat)) ∧
  fs.lookup ("moves" : Str) = some (.ref md) ∧ H md = some (.dK kv0) ∧ fs.length ≤ 500 ∧ b.length ≤ 60 ∧ a ≤ 100 ∧ (∀ i, i < b.length → B[a + i]? = (bl b)[i]?) ∧ (∀ c ∈ bl b, c = 42 ∨ c ∈ SG) ∧ Kv2 B a kv0 ∧
  ∀ (fs' : List (Str × V)) (kvs : List (Key × V)) (H' : Hp), H' m = some (.ins T.C_Machine dx fs') → H' md = some (.dK kvs) → (∀ x o, H x = some o → x ≠ m → x ≠ md → H' x = some o) →
    fs'.lookup ("stars" : Str) = some (.int (starsOf B (a + b.length) : Nat)) → fs'.lookup ("held" : Str) = some (.int (heldOf B (a + b.length) : Nat)) → (∀ x, x ≠ ("stars" : Str) → x ≠ ("held" : Str) → fs'.lookup x = fs.lookup x) → fs'.length ≤ fs.length + 2 * b.length → Kv2 B (a + b.length) kvs → Q .non H'
theorem bits_succ (f : Nat → Bool) (n : Nat) : bits f (n + 1) = bits f n ||| (if f n then 2 ^ n else 0) := rfl
section
variable {P : Program} {w : World} {K : PySem.W.Frag} {mg : Str → Option Value} {base : Heap}
theorem sc_take : FnScope ["self", "body", "first", "place", "sign", "bit"] ["self", "body", "first"] (defScope s__take) := ⟨rfl, rfl, rfl, by decide +kernel, rfl, by decide +kernel, by decide +kernel⟩
theorem ok_take (T : D K mg) : FnOk P w K mg base CX0 1 T.f__take T.d__take ["self", "body", "first"] (spTake T) := by
  refine T.U__take.ok sc_take (fun vs H Q E h => ?_) (fun cdv A outer s H vs Q E hr h => ?_)
  · obtain ⟨m, dx, md, b, a, B, fs, kv0, rfl, _⟩ := h
    rfl
  · obtain ⟨m, dx, md, b, a, B, fs, kv0, rfl, hm, l1, l2, l3, hd, hl, hb, hab, hB, hb0, hkv, k⟩ := h
    have nd := sc_take.nd
    have hu := hu_of hr
    have nmd : m ≠ md := ne_of hm hd (by intro q; cases q)
    refine ⟨_, pss_one (ps_for PassesOwn.never rfl (pi_enumK (by rfl) T.enumerate (pa_cons (pv 1) pa_nil) (pk_cons (pv 2) pk_nil)) (pg_tup rfl (pgs_cons (pg_name (i := 3) nd rfl (.inl rfl)) (pgs_cons (pg_name (i := 4) nd rfl (.inl rfl)) pgs_nil)))
        (pss_cons (ps_set (i := 5) nd rfl (.inl rfl) (pe_op op_shl pe_int (pv 3)))
        (pss_one (ps_if (pt_cmpR op_eq (pv 4) pe_str (nomark _))
          (pss_cons (ps_fldaug (pv 0) (pv 5) in_or)
          (pss_one (ps_fldaug (pv 0) (pe_op op_shlW (pv 5) pe_int) in_or)))
          (pss_one (ps_dput hu (pe_fld (pv 0) rfl) (pv 4) (pe_op op_or (pe_dget2 hu (pe_fld (pv 0) rfl) (pv 4) pe_int ⟨by rfl, by rfl, by rfl, by rfl⟩) (pv 5)) rfl)))))), ?_⟩
    refine ⟨_, rfl, _, rfl, b, ((a : Nat) : Int), rfl, rfl, by omega, by omega, ?_⟩
    refine for_it (walk_tx (x := b) (c := ((a : Nat) : Int))) (fun i σ H2 => ∃ (fs' : List (Str × V)) (kvs : List (Key × V)) (v3 v4 v5 : Option V), σ = [some (.ref m), some (.str b), some (.int (a : Nat)), v3, v4, v5] ∧ i ≤ b.length ∧
        H2 m = some (.ins T.C_Machine dx fs') ∧ H2 md = some (.dK kvs) ∧ (∀ x o, H x = some o → x ≠ m → x ≠ md → H2 x = some o) ∧ fs'.lookup ("stars" : Str) = some (.int (starsOf B (a + i) : Nat)) ∧ fs'.lookup ("held" : Str) = some (.int (heldOf B (a + i) : Nat)) ∧
        (∀ x, x ≠ ("stars" : Str) → x ≠ ("held" : Str) → fs'.lookup x = fs.lookup x) ∧ fs'.length ≤ fs.length + 2 * i ∧ Kv2 B (a + i) kvs)
      ⟨fs, kv0, none, none, none, rfl, Nat.zero_le _, hm, hd, fun x o e _ _ => e, l1, l2, fun x _ _ => rfl, Nat.le_refl _, hkv⟩ (fun _ _ _ _ _ => trivial) ?_ ?_
    · rintro i v σ H2 H3 hi ⟨fs', kvs, v3, v4, v5, rfl, hi2, hm2, hd2, ke, s1, s2, so, sl, kv⟩ ⟨p, d, rfl, hp, rfl, hdi⟩
      have npm : m ≠ p := ne_of_none hm2 hp
      have npd : md ≠ p := ne_of_none hd2 hp
      have hdl : (bl b)[i]? = some d := (Array.getElem?_toList (xs := b.cps) (i := i)).trans hdi
      have hBd : B[a + i]? = some d := (hB i hi).trans hdl
      have hm3 := (upd_ne (o := HO.tup [.int ((a : Nat) + (i : Nat)), .str ⟨#[d]⟩]) npm).trans hm2
      have hd3 := (upd_ne (o := HO.tup [.int ((a : Nat) + (i : Nat)), .str ⟨#[d]⟩]) npd).trans hd2
      have ke3 : ∀ x o, H x = some o → x ≠ m → x ≠ md → upd H2 p (.tup [.int ((a : Nat) + (i : Nat)), .str ⟨#[d]⟩]) x = some o := fun x o e n1 n2 => by
        rw [upd_ne (ne_of_none (ke x o e n1 n2) hp)]
        exact ke x o e n1 n2
      refine ⟨p, _, rfl, .inl (.inl upd_same), rfl, _, _, rfl, _, _, rfl, rfl, ?_⟩
      refine ⟨_, rfl, _, _, rfl, rfl, ⟨by omega, by omega, by decide⟩, ?_⟩
      have e2 : (1 : Int) * 2 ^ (((a : Nat) : Int) + ((i : Nat) : Int)).toNat = ((2 ^ (a + i) : Nat) : Int) := by
        have : (((a : Nat) : Int) + ((i : Nat) : Int)).toNat = a + i := by omega
        rw [this, Int.one_mul]
        exact (Int.natCast_pow 2 (a + i)).symm
      dsimp only
      rw [e2]
      refine ⟨_, rfl, rfl, _, rfl, ?_⟩
      refine ite2 (fun hs => ?_) (fun hs => ?_)
      · have hs' : d = 42 := by
          have := of_decide_eq_true hs
          rw [lit_star] at this
          exact one_inj.mp (V.str.inj this)
        have hst : isSt B (a + i) = true := by
          unfold isSt
          rw [hBd, hs']
          rfl
        have hi60 : i < 60 := by
          have : b.cps.size = b.length := rfl
          omega
        refine ⟨_, rfl, m, _, dx, _, _, rfl, hm3, T.cl_Machine, T.n_stars, s1, _, rfl, _, _, rfl, rfl, _, _, hm3, (by omega), ?_⟩
        have hm4 : upd (upd H2 p (.tup [.int ((a : Nat) + (i : Nat)), .str ⟨#[d]⟩])) m (.ins T.C_Machine dx (putF ("stars" : Str) (.int (Builtin.bitOr ((starsOf B (a + i) : Nat) : Int) ((2 ^ (a + i) : Nat) : Int))) fs')) m = some (.ins T.C_Machine dx (putF ("stars" : Str) (.int (Builtin.bitOr ((starsOf B (a + i) : Nat) : Int) ((2 ^ (a + i) : Nat) : Int))) fs')) := upd_same
        refine ⟨_, rfl, m, _, dx, _, _, rfl, hm4, T.cl_Machine, T.n_held, (by rw [lookup_putF, if_neg (by decide +kernel)]; exact s2), _, rfl, _, _, rfl, rfl, ?_, _, _, rfl, rfl, _, _, hm4, ?_, ?_⟩
        · exact shl_ok (n := 200) (j := 1) (by have : (2 : Nat) ^ (a + i) < 2 ^ 200 := Nat.pow_lt_pow_right (by decide) (by omega); simpa using this) (by decide)
        · have := length_putF ("stars" : Str) (.int (Builtin.bitOr ((starsOf B (a + i) : Nat) : Int) ((2 ^ (a + i) : Nat) : Int))) fs'
          omega
        · rw [nshl1, nor, nor]
          refine ⟨_, kvs, _, _, _, rfl, hi, upd_same, ?_, ?_, ?_, ?_, ?_, ?_, kv.star hst⟩
          · rw [upd_ne (Ne.symm nmd), upd_ne (Ne.symm nmd)]
            exact hd3
          · intro x o e n1 n2
            rw [upd_ne n1, upd_ne n1]
            exact ke3 x o e n1 n2
          · rw [lookup_putF, if_neg (by decide +kernel), lookup_putF, if_pos rfl]
            unfold starsOf
            rw [← Nat.add_assoc a i 1, bits_succ, hst]
            rfl
          · rw [lookup_putF, if_pos rfl]
            unfold heldOf
            rw [← Nat.add_assoc a i 1, bits_succ, hst, if_pos rfl, mul2_or]
          · intro x n1 n2
            rw [lookup_putF, if_neg n2, lookup_putF, if_neg n1]
            exact so x n1 n2
          · have h1 := length_putF ("stars" : Str) (.int ((starsOf B (a + i) ||| 2 ^ (a + i) : Nat) : Int)) fs'
            have h2 := length_putF ("held" : Str) (.int ((heldOf B (a + i) ||| 2 ^ (a + i) * 2 : Nat) : Int)) (putF ("stars" : Str) (.int ((starsOf B (a + i) ||| 2 ^ (a + i) : Nat) : Int)) fs')
            omega
      · have hs' : d ≠ 42 := fun e => hs (decide_eq_true (by rw [e, lit_star]))
        have hst : isSt B (a + i) = false := by
          unfold isSt
          rw [hBd]
          simpa using hs'
        have hSG : d ∈ SG := (hb0 d (List.mem_of_getElem? hdl)).resolve_left hs'
        have hd0 : d ≠ 0 := fun e => absurd (e ▸ hSG) (by decide +kernel)
        have l3' : fs'.lookup ("moves" : Str) = some (.ref md) := by
          rw [so _ (by decide +kernel) (by decide +kernel)]
          exact l3
        refine ⟨_, rfl, m, _, dx, _, _, rfl, hm3, T.cl_Machine, T.n_moves, l3', md, rfl, .inl ⟨kvs, .inl hd3⟩, _, rfl, _, DGet.k (k := Sum.inr (⟨#[d]⟩ : Str)) hd3, _, rfl, _, _, kv.get d hd0, rfl, _, rfl, m, _, dx, _, _, rfl, hm3, T.cl_Machine, T.n_moves, l3', _, rfl, md, _, rfl,
          DPut.k (k := Sum.inr (⟨#[d]⟩ : Str)) hd3 ?_, ?_⟩
        · have := kv.len
          have : b.cps.size = b.length := rfl
          exact small1000 (by omega)
        · dsimp only
          rw [nor]
          refine ⟨fs', _, _, _, _, rfl, hi, ?_, upd_same, ?_, ?_, ?_, so, by omega, kv.put hSG hst hBd⟩
          · rw [upd_ne nmd]
            exact hm3
          · intro x o e n1 n2
            rw [upd_ne n2]
            exact ke3 x o e n1 n2
          · rw [s1]
            unfold starsOf
            rw [← Nat.add_assoc a i 1, bits_succ, hst]
            simp
          · rw [s2]
            unfold heldOf
            rw [← Nat.add_assoc a i 1, bits_succ, hst]
            simp
    · rintro σ H2 ⟨fs', kvs, v3, v4, v5, rfl, hi2, hm2, hd2, ke, s1, s2, so, sl, kv⟩
      exact k fs' kvs H2 hm2 hd2 ke s1 s2 so (by have : b.cps.size = b.length := rfl; omega) kv
end
end KP

set_option Elab.async false
set_option maxRecDepth 100000
set_option maxHeartbeats 4000000
set_option linter.all false
/-! Ours: the machine: the signs that it tells, how it is made whole. -/
namespace KP
open PySem PySem.Spec PyProof.Rows L2 Gr GxR PM
def spTell {K : PySem.W.Frag} {mg : Str → Option Value} (T : D K mg) : Sp := fun vs H Q _ => ∃ (m dx md : Addr) (fs : List (Str × V)) (kvs : List (Key × V)), vs = [.ref m] ∧ H m = some (.ins T.C_Machine dx fs) ∧ fs.lookup ("moves" : Str) = some (.ref md) ∧ H md = some (.dK kvs) ∧
  (∀ p ∈ kvs, ∃ z : Str, p.1 = Sum.inr z) ∧ kvs.length ≤ 60 ∧ ∀ (p : Addr) (H' : Hp), Same H H' → Q (.ref p) H'
theorem keys_strs : ∀ {kvs : List (Key × V)}, (∀ p ∈ kvs, ∃ z : Str, p.1 = Sum.inr z) → ∃ ss : List Str, kvs.map (fun p => kV p.1) = ss.map V.str ∧ ss.length = kvs.length
  | [], _ => ⟨[], rfl, rfl⟩
  | p :: r, h => by
    obtain ⟨ss, e, l⟩ := keys_strs (kvs := r) fun q hq => h q (List.mem_cons_of_mem _ hq)
    obtain ⟨z, ez⟩ := h p List.mem_cons_self
    refine ⟨z :: ss, ?_, by rw [List.length_cons, List.length_cons, l]⟩
    rw [List.map_cons, List.map_cons, e, ez]
    rfl
theorem cut_strs (ss : List Str) (n : Nat) : ∃ tt : List Str, cutV (ss.map V.str) none (some (n : Int)) = tt.map V.str ∧ tt.length ≤ n := by
  refine ⟨ss.take n, ?_, by rw [List.length_take]; exact Nat.min_le_left _ _⟩
  unfold cutV
  show ((ss.map V.str).drop 0).take (HT.sIx (ss.map V.str).length (ss.map V.str).length (some (n : Int)) - 0) = _
  rw [List.drop_zero, Nat.sub_zero, HT.sIx_nat, List.map_take]
  by_cases h : n ≤ (ss.map V.str).length
  · rw [Nat.min_eq_left h]
  · rw [Nat.min_eq_right (by omega), List.take_of_length_le (Nat.le_refl _), List.take_of_length_le (by omega)]
section
variable {P : Program} {w : World} {K : PySem.W.Frag} {mg : Str → Option Value} {base : Heap}
theorem sc_tell : FnScope ["self", "others", "sign"] ["self"] (defScope s__telling_signs) := ⟨rfl, rfl, rfl, by decide +kernel, rfl, by decide +kernel, by decide +kernel⟩
theorem ok_tell (T : D K mg) : FnOk P w K mg base CX0 1 T.f__telling_signs T.d__telling_signs ["self"] (spTell T) := by
  refine T.U__telling_signs.ok sc_tell (fun vs H Q E h => ?_) (fun cdv A outer s H vs Q E hr h => ?_)
  · obtain ⟨m, dx, md, fs, kvs, rfl, _⟩ := h
    rfl
  · obtain ⟨m, dx, md, fs, kvs, rfl, hm, lm, hd, hk, hl, k⟩ := h
    have nd := sc_tell.nd
    have hu := hu_of hr
    refine ⟨_, pss_cons (ps_setLc (i := 1) (own := [("sign", 2)]) (g := gName 2) rfl nd rfl rfl (sw_true rfl rfl rfl (by decide +kernel)) (pi_str (pe_glob (v := .str SGs) rfl T.g_SIGNS ⟨_, rfl⟩)) (blkOk_by (N := ["self", "others", "sign"]) (sc := defScope s__telling_signs) (by decide +kernel)) (fun _ _ _ _ _ => pg_name (i := 2) nd rfl (.inl rfl)) (fun _ _ _ _ _ => (pts_one (pt_cmp (pc_dnotin (by exact hu) (pv 2) (pe_fldB (pv 0) rfl))))) (fun _ _ _ _ _ => pv 2))
      (pss_one (ps_ret (pe_callB cr_sortedS (by rfl) T.sorted (by decide +kernel) (pa_cons (pe_op op_cat (pe_callTy (call_listD rfl) (by rfl) T.list (by decide +kernel) (pa_cons (pe_fld (pv 0) rfl) pa_nil)) (pe_slice sl_list (pv 1) po_none (po_some pe_int))) pa_nil)))), ?_⟩
    refine ⟨SGs, rfl, fun D hD => lc_it (walk_str (z := SGs)) (fun i H2 => Same H H2 ∧ ∃ ss : List Str, H2 D = some (.lst (ss.map V.str)) ∧ ss.length ≤ i) ⟨same_upd hD, [], upd_same, Nat.le_refl _⟩ (fun _ _ _ _ => trivial) ?_ ?_⟩
    · rintro i x H2 H3 hi ⟨s2, ss, hDs, hls⟩ ⟨rfl, c, hc, rfl⟩
      have hD2 : H D = none := hD
      refine ⟨rfl, ?_⟩
      refine ⟨_, rfl, _, rfl, m, _, dx, _, _, rfl, s2 _ _ hm, T.cl_Machine, T.n_moves, lm, md, _, rfl, DGet.k (k := Sum.inr (⟨#[c]⟩ : Str)) (s2 _ _ hd), _, rfl, ?_⟩
      have hi40 : i < 1000 := Nat.lt_of_lt_of_le hi (by decide +kernel)
      refine ite2 (fun _ => ?_) (fun _ => ?_)
      · refine ⟨_, rfl, _, hDs, ?_, same_into hD s2, ss ++ [⟨#[c]⟩], ?_, ?_⟩
        · rw [List.length_map]
          exact small1000 (by omega)
        · rw [upd_same, List.map_append]
          rfl
        · rw [List.length_append, List.length_singleton]
          omega
      · exact ⟨s2, ss, hDs, Nat.le_succ_of_le hls⟩
    · rintro H2 ⟨s2, ss, hDs, hls⟩
      obtain ⟨ks, ek, lk⟩ := keys_strs hk
      obtain ⟨tt, et, ltt⟩ := cut_strs ss 1
      refine ⟨_, rfl, m, _, dx, _, _, rfl, s2 _ _ hm, T.cl_Machine, T.n_moves, lm, md, kvs, rfl, .inl (s2 _ _ hd), fun p hp => ?_⟩
      have s3 : Same H2 (upd H2 p (.lst (kvs.map fun q => kV q.1))) := same_upd hp
      refine ⟨_, rfl, _, rfl, D, _, rfl, SqL.of (s3 _ _ hDs), fun q hq => ?_⟩
      have npq : p ≠ q := fun e => by
        rw [← e, upd_same] at hq
        cases hq
      have s4 := same_upd (o := HO.lst (cutV (ss.map V.str) none (some 1))) hq
      refine ⟨p, q, _, _, rfl, rfl, s4 _ _ upd_same, upd_same, ?_, fun r hr2 => ?_⟩
      · have l1 : (kvs.map fun q => kV q.1).length ≤ 60 := by rw [List.length_map]; exact hl
        have l2 : (cutV (ss.map V.str) none (some 1)).length ≤ 1 := by
          show (cutV (ss.map V.str) none (some ((1 : Nat) : Int))).length ≤ 1
          rw [et, List.length_map]
          exact ltt
        exact Nat.le_of_lt (small1000 (by omega))
      · have s5 := same_upd (o := HO.lst ((kvs.map fun q => kV q.1) ++ cutV (ss.map V.str) none (some 1))) hr2
        refine ⟨r, ks ++ tt, rfl, SqL.of ?_, ?_, fun ys o _ _ ho => ?_⟩
        · rw [upd_same, List.map_append, ← ek, ← et]
          rfl
        · rw [List.length_append]
          omega
        · exact k o _ (s2.trans (s3.trans (s4.trans (s5.trans (same_upd ho)))))
end
end KP

set_option Elab.async false
set_option maxRecDepth 100000
set_option maxHeartbeats 4000000
set_option linter.all false
/-! Ours: a machine for one body, made. -/
namespace KP
open PySem PySem.Spec PyProof.Rows L2 Gr GxR PM
/-- what is not a table stays -/
def Stay (H H' : Hp) : Prop := ∀ a o, H a = some o → (∀ ps, o ≠ .tbl ps) → H' a = some o
theorem Stay.refl (H : Hp) : Stay H H := fun _ _ e _ => e
theorem Stay.trans {H H1 H2 : Hp} (a : Stay H H1) (b : Stay H1 H2) : Stay H H2 := fun x o e n => b x o (a x o e n) n
theorem Stay.same {H H' : Hp} (s : Same H H') : Stay H H' := fun a o e _ => s a o e
/-- a machine for the bodies bs stands at m, its ends' list at le -/
def Mach {K : PySem.W.Frag} {mg : Str → Option Value} (T : D K mg) (H : Hp) (m le : Addr) (bs : List Str) : Prop := ∃ (dx ls md : Addr) (fs : List (Str × V)) (kvs : List (Key × V)), H m = some (.ins T.C_Machine dx fs) ∧
  (fs.lookup ("ends" : Str) = some (.ref le) ∧ H le = some (.lst ((ends' 0 (bs.map bl)).map fun e => V.int (e : Nat)))) ∧ (fs.lookup ("starts" : Str) = some (.ref ls) ∧ H ls = some (.lst ((fst' 0 (bs.map bl)).map fun e => V.int (e : Nat)))) ∧
  fs.lookup ("stars" : Str) = some (.int (starsOf (jn (bs.map bl)) (jn (bs.map bl)).length : Nat)) ∧ fs.lookup ("held" : Str) = some (.int (heldOf (jn (bs.map bl)) (jn (bs.map bl)).length : Nat)) ∧ (fs.lookup ("moves" : Str) = some (.ref md) ∧ H md = some (.dK kvs) ∧ Kv2 (jn (bs.map bl)) (jn (bs.map bl)).length kvs) ∧
  ∀ x, x ∉ FN → fs.lookup x = none
theorem Mach.stay {K : PySem.W.Frag} {mg : Str → Option Value} {T : D K mg} {H H' : Hp} {m le : Addr} {bs : List Str} (s : Stay H H') (h : Mach T H m le bs) : Mach T H' m le bs := by
  obtain ⟨dx, ls, md, fs, kvs, h1, ⟨l2, h2⟩, ⟨l3, h3⟩, h4, h5, ⟨l6, h6, kv⟩, h7⟩ := h
  exact ⟨dx, ls, md, fs, kvs, s _ _ h1 (fun _ e => nomatch e), ⟨l2, s _ _ h2 (fun _ e => nomatch e)⟩, ⟨l3, s _ _ h3 (fun _ e => nomatch e)⟩, h4, h5, ⟨l6, s _ _ h6 (fun _ e => nomatch e), kv⟩, h7⟩
def BodyOk (b : Str) : Prop := b.length ≤ 13 ∧ ∀ c ∈ bl b, c = 42 ∨ c ∈ SG
def spInit {K : PySem.W.Frag} {mg : Str → Option Value} (T : D K mg) : Sp := fun vs H Q _ => ∃ (m lb dx : Addr) (bs : List Str), vs = [.ref m, .ref lb] ∧ H m = some (.ins T.C_Machine dx []) ∧ H lb = some (.lst (bs.map V.str)) ∧ bs.length ≤ 6 ∧ (∀ b ∈ bs, BodyOk b) ∧
  ∀ (le : Addr) (H' : Hp), H le = none → Mach T H' m le bs → (∀ x o, H x = some o → x ≠ m → H' x = some o) → Q .non H'
theorem ends_len : ∀ (l : List (List Nat)) (a : Nat), (ends' a l).length = l.length
  | [], _ => rfl
  | b :: l, a => by
    show (_ :: ends' _ l).length = _
    rw [List.length_cons, List.length_cons, ends_len l]
theorem jn_small {bs : List Str} (l6 : bs.length ≤ 6) (h : ∀ b ∈ bs, BodyOk b) : (jn (bs.map bl)).length ≤ 84 := by
  have key : ∀ l : List Str, (∀ b ∈ l, BodyOk b) → (jn (l.map bl)).length ≤ 14 * l.length := fun l => by
    induction l with
    | nil => intro _; exact Nat.le_refl _
    | cons b l ih =>
      intro h
      have h1 := (h b List.mem_cons_self).1
      have h2 := ih fun c hc => h c (List.mem_cons_of_mem _ hc)
      show (bl b ++ 0 :: jn (l.map bl)).length ≤ _
      rw [List.length_append, List.length_cons, List.length_cons]
      have : (bl b).length = b.length := rfl
      omega
  have := key bs h
  omega
theorem lkN {f g : Str} {v w : V} {fs : List (Str × V)} (n : g ≠ f) (h : fs.lookup g = some w) : (putF f v fs).lookup g = some w := by
  rw [lookup_putF, if_neg n]
  exact h
theorem lkS {f : Str} {v : V} {fs : List (Str × V)} : (putF f v fs).lookup f = some v := by
  rw [lookup_putF, if_pos rfl]
theorem lkO {f g : Str} {v : V} {fs : List (Str × V)} (n : g ≠ f) : (putF f v fs).lookup g = fs.lookup g := by
  rw [lookup_putF, if_neg n]
theorem notFN {x : Str} (h : x ∉ FN) : x ≠ ("bodies" : Str) ∧ x ≠ ("starts" : Str) ∧ x ≠ ("ends" : Str) ∧ x ≠ ("stars" : Str) ∧ x ≠ ("held" : Str) ∧ x ≠ ("moves" : Str) ∧ x ≠ ("signs" : Str) := by
  unfold FN at h
  simp only [List.mem_cons, List.not_mem_nil, or_false, not_or] at h
  exact h
section
variable {P : Program} {w : World} {K : PySem.W.Frag} {mg : Str → Option Value} {base : Heap}
theorem sc_init : FnScope ["self", "bodies", "first", "body"] ["self", "bodies"] (defScope s_init) := ⟨rfl, rfl, rfl, by decide +kernel, rfl, by decide +kernel, by decide +kernel⟩
theorem ok_init (T : D K mg) : FnOk P w K mg base CX0 2 T.f_init T.d_init ["self", "bodies"] (spInit T) := by
  refine T.U_init.ok sc_init (fun vs H Q E h => ?_) (fun cdv A outer s H vs Q E hr h => ?_)
  · obtain ⟨m, lb, dx, bs, rfl, _⟩ := h
    rfl
  · obtain ⟨m, lb, dx, bs, rfl, hm, hlb, l6, hbs, k⟩ := h
    have nd := sc_init.nd
    have nlb : lb ≠ m := ne_of hlb hm (by intro q; cases q)
    refine ⟨_, pss_cons (ps_fld (pv 0) (pv 1) rfl)
      (pss_cons (ps_fld (pv 0) (pe_lst pa_nil) rfl)
      (pss_cons (ps_fld (pv 0) (pe_lst pa_nil) rfl)
      (pss_cons (ps_fld (pv 0) pe_int rfl)
      (pss_cons (ps_fld (pv 0) pe_int rfl)
      (pss_cons (ps_fld (pv 0) pe_dnewK rfl)
      (pss_cons (ps_set (i := 2) nd rfl (.inl rfl) pe_int)
      (pss_cons (ps_for PassesOwn.never rfl (pi_list (pv 1)) (pg_name (i := 3) nd rfl (.inl rfl))
        (pss_cons (ps_expr (pe_bm PySem.F.plainAttrs_list PySem.F.slot_list_append PySem.F.type_list_append mt_append (pe_fld (pv 0) rfl) (pa_cons (pv 2) pa_nil)))
        (pss_cons (ps_expr (pe_bm PySem.F.plainAttrs_list PySem.F.slot_list_append PySem.F.type_list_append mt_append (pe_fld (pv 0) rfl) (pa_cons (pe_op op_shl pe_int (pe_op op_add (pv 2) (pe_callB call_len_str (by rfl) T.len PySem.boot_len (pa_cons (pv 3) pa_nil)))) pa_nil)))
        (pss_cons (ps_expr (pe_meth (pv 0) T.cl_Machine T.M__take (ok_take T) hr T.b__take .nil pass0 (pa_cons (pv 3) (pa_cons (pv 2) pa_nil))))
        (pss_one (ps_aug (i := 2) nd rfl (.inl rfl) (pe_op op_add (pe_callB call_len_str (by rfl) T.len PySem.boot_len (pa_cons (pv 3) pa_nil)) pe_int) ip_add))))))
      (pss_one (ps_fld (pv 0) (pe_meth0 (pv 0) T.cl_Machine T.M__telling_signs (ok_tell T) hr T.b__telling_signs .nil pass0) rfl))))))))), ?_⟩
    -- bodies
    refine ⟨_, rfl, _, rfl, m, _, dx, [], rfl, hm, T.cl_Machine, T.n_bodies, (by decide), ?_⟩
    generalize eH1 : upd H m (.ins T.C_Machine dx (putF ("bodies" : Str) (.ref lb) [])) = H1
    have hm1 : H1 m = some (.ins T.C_Machine dx (putF ("bodies" : Str) (.ref lb) [])) := by rw [← eH1]; exact upd_same
    have k1 : ∀ x o, H x = some o → x ≠ m → H1 x = some o := fun x o e n => by rw [← eH1, upd_ne n]; exact e
    generalize eF1 : putF ("bodies" : Str) (.ref lb) [] = fs1 at hm1
    have lF1 : fs1.length ≤ 1 := by rw [← eF1]; exact length_putF _ _ _
    have b1 : fs1.lookup ("bodies" : Str) = some (.ref lb) := by rw [← eF1]; exact lkS
    have o1 : ∀ x, x ∉ FN → fs1.lookup x = none := fun x hx => by rw [← eF1, lkO (notFN hx).1]; rfl
    -- starts
    refine ⟨Nat.zero_le _, fun ls hls => ⟨_, rfl, m, _, dx, fs1, rfl, (upd_ne (ne_of_none hm1 hls)).trans hm1, T.cl_Machine, T.n_starts, by omega, ?_⟩⟩
    have nls : ls ≠ m := fun e => by rw [e, hm1] at hls; cases hls
    generalize eH2 : upd (upd H1 ls (.lst [])) m (.ins T.C_Machine dx (putF ("starts" : Str) (.ref ls) fs1)) = H2
    have hm2 : H2 m = some (.ins T.C_Machine dx (putF ("starts" : Str) (.ref ls) fs1)) := by rw [← eH2]; exact upd_same
    have k2 : ∀ x o, H x = some o → x ≠ m → H2 x = some o := fun x o e n => by rw [← eH2, upd_ne n, upd_ne (ne_of_none (k1 x o e n) hls)]; exact k1 x o e n
    have hS2 : H2 ls = some (.lst []) := by rw [← eH2, upd_ne nls]; exact upd_same
    have fS : H ls = none := by
      cases q : H ls with
      | none => rfl
      | some o => rw [k1 ls o q nls] at hls; cases hls
    generalize eF2 : putF ("starts" : Str) (.ref ls) fs1 = fs2 at hm2
    have lF2 : fs2.length ≤ 2 := by have := length_putF ("starts" : Str) (.ref ls) fs1; rw [eF2] at this; omega
    have b2 : fs2.lookup ("bodies" : Str) = some (.ref lb) := by rw [← eF2]; exact lkN (by decide +kernel) b1
    have st2 : fs2.lookup ("starts" : Str) = some (.ref ls) := by rw [← eF2]; exact lkS
    have o2 : ∀ x, x ∉ FN → fs2.lookup x = none := fun x hx => by rw [← eF2, lkO (notFN hx).2.1]; exact o1 x hx
    -- ends
    refine ⟨Nat.zero_le _, fun le hle => ⟨_, rfl, m, _, dx, fs2, rfl, (upd_ne (ne_of_none hm2 hle)).trans hm2, T.cl_Machine, T.n_ends, by omega, ?_⟩⟩
    have nle : le ≠ m := fun e => by rw [e, hm2] at hle; cases hle
    have nSE : ls ≠ le := ne_of_none hS2 hle
    generalize eH3 : upd (upd H2 le (.lst [])) m (.ins T.C_Machine dx (putF ("ends" : Str) (.ref le) fs2)) = H3
    have hm3 : H3 m = some (.ins T.C_Machine dx (putF ("ends" : Str) (.ref le) fs2)) := by rw [← eH3]; exact upd_same
    have k3 : ∀ x o, H x = some o → x ≠ m → H3 x = some o := fun x o e n => by rw [← eH3, upd_ne n, upd_ne (ne_of_none (k2 x o e n) hle)]; exact k2 x o e n
    have hS3 : H3 ls = some (.lst []) := by rw [← eH3, upd_ne nls, upd_ne nSE]; exact hS2
    have hE3 : H3 le = some (.lst []) := by rw [← eH3, upd_ne nle]; exact upd_same
    have fE : H le = none := by
      cases q : H le with
      | none => rfl
      | some o => rw [k2 le o q nle] at hle; cases hle
    generalize eF3 : putF ("ends" : Str) (.ref le) fs2 = fs3 at hm3
    have lF3 : fs3.length ≤ 3 := by have := length_putF ("ends" : Str) (.ref le) fs2; rw [eF3] at this; omega
    have b3 : fs3.lookup ("bodies" : Str) = some (.ref lb) := by rw [← eF3]; exact lkN (by decide +kernel) b2
    have st3 : fs3.lookup ("starts" : Str) = some (.ref ls) := by rw [← eF3]; exact lkN (by decide +kernel) st2
    have en3 : fs3.lookup ("ends" : Str) = some (.ref le) := by rw [← eF3]; exact lkS
    have o3 : ∀ x, x ∉ FN → fs3.lookup x = none := fun x hx => by rw [← eF3, lkO (notFN hx).2.2.1]; exact o2 x hx
    -- stars, held
    refine ⟨_, rfl, m, _, dx, fs3, rfl, hm3, T.cl_Machine, T.n_stars, by omega, _, rfl, m, _, dx, _, rfl, upd_same, T.cl_Machine, T.n_held, ?_, ?_⟩
    · have := length_putF ("stars" : Str) (.int 0) fs3
      omega
    generalize eF4 : putF ("held" : Str) (.int 0) (putF ("stars" : Str) (.int 0) fs3) = fs4
    generalize eH4 : upd (upd H3 m (.ins T.C_Machine dx (putF ("stars" : Str) (.int 0) fs3))) m (.ins T.C_Machine dx fs4) = H4
    have hm4 : H4 m = some (.ins T.C_Machine dx fs4) := by rw [← eH4]; exact upd_same
    have k4 : ∀ x o, H3 x = some o → x ≠ m → H4 x = some o := fun x o e n => by rw [← eH4, upd_ne n, upd_ne n]; exact e
    have lF4 : fs4.length ≤ 5 := by
      have h1 := length_putF ("stars" : Str) (.int 0) fs3
      have h2 := length_putF ("held" : Str) (.int 0) (putF ("stars" : Str) (.int 0) fs3)
      rw [eF4] at h2
      omega
    have b4 : fs4.lookup ("bodies" : Str) = some (.ref lb) := by rw [← eF4]; exact lkN (by decide +kernel) (lkN (by decide +kernel) b3)
    have st4 : fs4.lookup ("starts" : Str) = some (.ref ls) := by rw [← eF4]; exact lkN (by decide +kernel) (lkN (by decide +kernel) st3)
    have en4 : fs4.lookup ("ends" : Str) = some (.ref le) := by rw [← eF4]; exact lkN (by decide +kernel) (lkN (by decide +kernel) en3)
    have sa4 : fs4.lookup ("stars" : Str) = some (.int 0) := by rw [← eF4]; exact lkN (by decide +kernel) lkS
    have he4 : fs4.lookup ("held" : Str) = some (.int 0) := by rw [← eF4]; exact lkS
    have o4 : ∀ x, x ∉ FN → fs4.lookup x = none := fun x hx => by rw [← eF4, lkO (notFN hx).2.2.2.2.1, lkO (notFN hx).2.2.2.1]; exact o3 x hx
    -- moves
    refine fun md hmd => ⟨_, rfl, m, _, dx, fs4, rfl, (upd_ne (ne_of_none hm4 hmd)).trans hm4, T.cl_Machine, T.n_moves, by omega, ?_⟩
    have nmd : md ≠ m := fun e => by rw [e, hm4] at hmd; cases hmd
    have nSD : ls ≠ md := ne_of_none (k4 _ _ hS3 nls) hmd
    have nED : le ≠ md := ne_of_none (k4 _ _ hE3 nle) hmd
    generalize eH5 : upd (upd H4 md (.dK [])) m (.ins T.C_Machine dx (putF ("moves" : Str) (.ref md) fs4)) = H5
    have hm5 : H5 m = some (.ins T.C_Machine dx (putF ("moves" : Str) (.ref md) fs4)) := by rw [← eH5]; exact upd_same
    have k5 : ∀ x o, H x = some o → x ≠ m → H5 x = some o := fun x o e n => by
      have q := k4 x o (k3 x o e n) n
      rw [← eH5, upd_ne n, upd_ne (ne_of_none q hmd)]
      exact q
    have hS5 : H5 ls = some (.lst []) := by rw [← eH5, upd_ne nls, upd_ne nSD]; exact k4 _ _ hS3 nls
    have hE5 : H5 le = some (.lst []) := by rw [← eH5, upd_ne nle, upd_ne nED]; exact k4 _ _ hE3 nle
    have hD5 : H5 md = some (.dK []) := by rw [← eH5, upd_ne nmd]; exact upd_same
    have fD : H md = none := by
      cases q : H md with
      | none => rfl
      | some o => rw [k4 md o (k3 md o q nmd) nmd] at hmd; cases hmd
    generalize eF5 : putF ("moves" : Str) (.ref md) fs4 = fs5 at hm5
    have lF5 : fs5.length ≤ 6 := by have := length_putF ("moves" : Str) (.ref md) fs4; rw [eF5] at this; omega
    have b5 : fs5.lookup ("bodies" : Str) = some (.ref lb) := by rw [← eF5]; exact lkN (by decide +kernel) b4
    have st5 : fs5.lookup ("starts" : Str) = some (.ref ls) := by rw [← eF5]; exact lkN (by decide +kernel) st4
    have en5 : fs5.lookup ("ends" : Str) = some (.ref le) := by rw [← eF5]; exact lkN (by decide +kernel) en4
    have sa5 : fs5.lookup ("stars" : Str) = some (.int 0) := by rw [← eF5]; exact lkN (by decide +kernel) sa4
    have he5 : fs5.lookup ("held" : Str) = some (.int 0) := by rw [← eF5]; exact lkN (by decide +kernel) he4
    have mo5 : fs5.lookup ("moves" : Str) = some (.ref md) := by rw [← eF5]; exact lkS
    have o5 : ∀ x, x ∉ FN → fs5.lookup x = none := fun x hx => by rw [← eF5, lkO (notFN hx).2.2.2.2.2.1]; exact o4 x hx
    clear eF1 eF2 eF3 eF4 eF5 eH1 eH2 eH3 eH4 eH5 k1 k2 k3 k4
    -- the loop over the bodies
    obtain ⟨B, hBB⟩ : ∃ B, B = jn (bs.map bl) := ⟨_, rfl⟩
    have hjn := jn_small l6 hbs
    have nlbd : lb ≠ md := fun e => by rw [e, fD] at hlb; cases hlb
    have nlbs : lb ≠ ls := fun e => by rw [e, fS] at hlb; cases hlb
    have nlbe : lb ≠ le := fun e => by rw [e, fE] at hlb; cases hlb
    have plen : ∀ j, (jn ((bs.map bl).take j)).length ≤ 84 := fun j => by
      rw [← List.map_take]
      exact jn_small (by rw [List.length_take]; omega) fun b hb => hbs b (List.mem_of_mem_take hb)
    refine ⟨_, rfl, lb, rfl, ⟨_, SqL.of (k5 _ _ hlb nlb)⟩, for_list (K := K) (a := lb) (xs := bs.map V.str) (fun j σ H6 => (∃ v3, σ = [some (.ref m), some (.ref lb), some (.int ((jn ((bs.map bl).take j)).length : Nat)), v3]) ∧ (∀ x o, H x = some o → x ≠ m → H6 x = some o) ∧
        H6 ls = some (.lst ((fst' 0 ((bs.map bl).take j)).map fun e => V.int (e : Nat))) ∧ H6 le = some (.lst ((ends' 0 ((bs.map bl).take j)).map fun e => V.int (e : Nat))) ∧ ∃ (fs6 : List (Str × V)) (kvs : List (Key × V)), H6 m = some (.ins T.C_Machine dx fs6) ∧ H6 md = some (.dK kvs) ∧
          fs6.lookup ("stars" : Str) = some (.int (starsOf B (jn ((bs.map bl).take j)).length : Nat)) ∧ fs6.lookup ("held" : Str) = some (.int (heldOf B (jn ((bs.map bl).take j)).length : Nat)) ∧ (∀ x, x ≠ ("stars" : Str) → x ≠ ("held" : Str) → fs6.lookup x = fs5.lookup x) ∧ fs6.length ≤ 6 + 2 * (jn ((bs.map bl).take j)).length ∧ Kv2 B (jn ((bs.map bl).take j)).length kvs)
      ⟨⟨none, rfl⟩, k5, hS5, hE5, fs5, [], hm5, hD5, sa5, he5, fun _ _ _ => rfl, by omega, .nil _⟩ (fun _ _ _ _ h => SqL.of (h.2.1 _ _ hlb nlb)) ?_ ?_⟩
    · rintro j y σ H6 hi ⟨⟨v3, rfl⟩, k6, hS6, hE6, fs6, kvs, hm6, hD6, sa6, he6, ot6, lF6, kv6⟩
      rw [List.getElem?_map] at hi
      obtain ⟨b, hbj, rfl⟩ := Option.map_eq_some_iff.mp hi
      have hbm : (bs.map bl)[j]? = some (bl b) := by rw [List.getElem?_map, hbj]; rfl
      have hbok := hbs b (List.mem_of_getElem? hbj)
      have hb13 := hbok.1
      have pl := plen j
      obtain ⟨p1, p2, p3⟩ := pos_more hbm
      obtain ⟨q1, q2, _, _⟩ := at_pos hbm
      rw [← hBB] at q1 q2
      have hbl : (bl b).length = b.length := rfl
      rw [hbl] at p1 p3 q2
      have mz : b.length ≤ sizeLine := Nat.le_trans (Nat.le_trans hb13 (by decide)) (by decide : 13 ≤ sizeLine)
      rw [p1, p2, p3]
      generalize hpos : (jn ((bs.map bl).take j)).length = pos at *
      have st6 : fs6.lookup ("starts" : Str) = some (.ref ls) := by rw [ot6 _ (by decide +kernel) (by decide +kernel)]; exact st5
      have en6 : fs6.lookup ("ends" : Str) = some (.ref le) := by rw [ot6 _ (by decide +kernel) (by decide +kernel)]; exact en5
      have mo6 : fs6.lookup ("moves" : Str) = some (.ref md) := by rw [ot6 _ (by decide +kernel) (by decide +kernel)]; exact mo5
      have o6 : ∀ x, x ∉ FN → fs6.lookup x = none := fun x hx => by rw [ot6 x (notFN hx).2.2.2.1 (notFN hx).2.2.2.2.1]; exact o5 x hx
      have lfs : ((fst' 0 ((bs.map bl).take j)).map fun e => V.int (e : Nat)).length ≤ 1000 := by rw [List.length_map, fst_len, List.length_take, List.length_map]; omega
      refine ⟨_, rfl, m, _, dx, fs6, _, rfl, hm6, T.cl_Machine, T.n_starts, st6, .inl ⟨rfl, _, SqL.of hS6⟩, _, rfl, ls, _, _, rfl, rfl, hS6, small1000 lfs, ?_⟩
      have eE : (1 : Int) * 2 ^ (((pos : Nat) : Int) + ((b.length : Nat) : Int)).toNat = ((2 ^ (pos + b.length) : Nat) : Int) := by
        have : (((pos : Nat) : Int) + ((b.length : Nat) : Int)).toNat = pos + b.length := by omega
        rw [this, Int.one_mul]
        exact (Int.natCast_pow 2 (pos + b.length)).symm
      have hm7 := (upd_ne (H := H6) (o := HO.lst (((fst' 0 ((bs.map bl).take j)).map fun e => V.int (e : Nat)) ++ [V.int (pos : Nat)])) (Ne.symm nls)).trans hm6
      have hE7 := (upd_ne (H := H6) (o := HO.lst (((fst' 0 ((bs.map bl).take j)).map fun e => V.int (e : Nat)) ++ [V.int (pos : Nat)])) (Ne.symm nSE)).trans hE6
      have hD7 := (upd_ne (H := H6) (o := HO.lst (((fst' 0 ((bs.map bl).take j)).map fun e => V.int (e : Nat)) ++ [V.int (pos : Nat)])) (Ne.symm nSD)).trans hD6
      have hS7 : upd H6 ls (.lst (((fst' 0 ((bs.map bl).take j)).map fun e => V.int (e : Nat)) ++ [V.int (pos : Nat)])) ls = _ := upd_same
      have k7 : ∀ x o, H x = some o → x ≠ m → upd H6 ls (.lst (((fst' 0 ((bs.map bl).take j)).map fun e => V.int (e : Nat)) ++ [V.int (pos : Nat)])) x = some o := fun x o e n => (upd_ne (fun z => by rw [z, fS] at e; cases e)).trans (k6 x o e n)
      generalize upd H6 ls (.lst (((fst' 0 ((bs.map bl).take j)).map fun e => V.int (e : Nat)) ++ [V.int (pos : Nat)])) = H7 at *
      have lfe : ((ends' 0 ((bs.map bl).take j)).map fun e => V.int (e : Nat)).length ≤ 1000 := by rw [List.length_map, ends_len, List.length_take, List.length_map]; omega
      refine ⟨_, rfl, m, _, dx, fs6, _, rfl, hm7, T.cl_Machine, T.n_ends, en6, .inl ⟨rfl, _, SqL.of hE7⟩, _, rfl, _, rfl, _, rfl, mz, _, _, rfl, rfl, _, _, rfl, rfl, ⟨by omega, by omega, by decide⟩, le, _, _, rfl, rfl, hE7, small1000 lfe, ?_⟩
      dsimp only
      rw [eE]
      have hm8 := (upd_ne (H := H7) (o := HO.lst (((ends' 0 ((bs.map bl).take j)).map fun e => V.int (e : Nat)) ++ [V.int ((2 ^ (pos + b.length) : Nat) : Int)])) (Ne.symm nle)).trans hm7
      have hS8 := (upd_ne (H := H7) (o := HO.lst (((ends' 0 ((bs.map bl).take j)).map fun e => V.int (e : Nat)) ++ [V.int ((2 ^ (pos + b.length) : Nat) : Int)])) nSE).trans hS7
      have hD8 := (upd_ne (H := H7) (o := HO.lst (((ends' 0 ((bs.map bl).take j)).map fun e => V.int (e : Nat)) ++ [V.int ((2 ^ (pos + b.length) : Nat) : Int)])) (Ne.symm nED)).trans hD7
      have hE8 : upd H7 le (.lst (((ends' 0 ((bs.map bl).take j)).map fun e => V.int (e : Nat)) ++ [V.int ((2 ^ (pos + b.length) : Nat) : Int)])) le = _ := upd_same
      have k8 : ∀ x o, H x = some o → x ≠ m → upd H7 le (.lst (((ends' 0 ((bs.map bl).take j)).map fun e => V.int (e : Nat)) ++ [V.int ((2 ^ (pos + b.length) : Nat) : Int)])) x = some o := fun x o e n => (upd_ne (fun z => by rw [z, fE] at e; cases e)).trans (k7 x o e n)
      generalize upd H7 le (.lst (((ends' 0 ((bs.map bl).take j)).map fun e => V.int (e : Nat)) ++ [V.int ((2 ^ (pos + b.length) : Nat) : Int)])) = H8 at *
      refine ⟨_, rfl, m, dx, fs6, rfl, hm8, o6 _ (by decide +kernel), _, rfl, _, rfl, m, dx, md, b, pos, B, fs6, kvs, rfl, hm8, sa6, he6, mo6, hD8, by omega, by omega, by omega, fun i hi => q1 i hi, hbok.2, kv6, fun fs9 kv9 H9 hm9 hD9 k9 sa9 he9 ot9 lF9 kvv9 => ?_⟩
      refine ⟨_, rfl, _, rfl, _, rfl, mz, _, _, rfl, rfl, _, _, rfl, rfl, ?_⟩
      have e9 : ((pos : Nat) : Int) + (((b.length : Nat) : Int) + 1) = ((pos + b.length + 1 : Nat) : Int) := by omega
      dsimp only
      rw [e9]
      have nst : isSt B (pos + b.length) = false := by
        unfold isSt
        rw [q2]
        rfl
      refine ⟨⟨_, rfl⟩, fun x o e n => k9 x o (k8 x o e n) n (fun z => by rw [z, fD] at e; cases e), ?_, ?_, fs9, kv9, hm9, hD9, ?_, ?_, fun x n1 n2 => (ot9 x n1 n2).trans (ot6 x n1 n2), by omega, kvv9.sep q2⟩
      · rw [List.map_append]
        exact k9 _ _ hS8 nls nSD
      · rw [List.map_append]
        exact k9 _ _ hE8 nle nED
      · rw [sa9]
        unfold starsOf
        rw [bits_succ, nst]
        simp
      · rw [he9]
        unfold heldOf
        rw [bits_succ, nst]
        simp
    · rintro σ H6 ⟨⟨v3, rfl⟩, k6, hS6, hE6, fs6, kvs, hm6, hD6, sa6, he6, ot6, lF6, kv6⟩
      have tk : (bs.map bl).take (bs.map V.str).length = bs.map bl := List.take_of_length_le (by rw [List.length_map, List.length_map]; exact Nat.le_refl _)
      rw [tk] at hS6 hE6 sa6 he6 lF6 kv6 ⊢
      rw [← hBB] at sa6 he6 lF6 kv6 hjn
      have mo6 : fs6.lookup ("moves" : Str) = some (.ref md) := by rw [ot6 _ (by decide +kernel) (by decide +kernel)]; exact mo5
      have o6 : ∀ x, x ∉ FN → fs6.lookup x = none := fun x hx => by rw [ot6 x (notFN hx).2.2.2.1 (notFN hx).2.2.2.2.1]; exact o5 x hx
      refine ⟨_, rfl, m, dx, _, rfl, hm6, o6 _ (by decide +kernel), m, dx, md, fs6, kvs, rfl, hm6, mo6, hD6, (fun p hp => let ⟨c, _, e⟩ := kv6.key p hp; ⟨_, e⟩), Nat.le_trans kv6.len (by decide), fun p H7 s7 => ?_⟩
      refine ⟨_, rfl, m, _, dx, fs6, rfl, s7 _ _ hm6, T.cl_Machine, T.n_signs, by omega, ?_⟩
      subst hBB
      refine k le _ fE ⟨dx, ls, md, _, kvs, upd_same, ⟨lkN (by decide +kernel) ?_, ?_⟩, ⟨lkN (by decide +kernel) ?_, ?_⟩, lkN (by decide +kernel) sa6, lkN (by decide +kernel) he6, ⟨lkN (by decide +kernel) mo6, ?_, kv6⟩, fun x hx => ?_⟩ fun x o e n => ?_
      · rw [ot6 _ (by decide +kernel) (by decide +kernel)]; exact en5
      · rw [upd_ne nle]; exact s7 _ _ hE6
      · rw [ot6 _ (by decide +kernel) (by decide +kernel)]; exact st5
      · rw [upd_ne nls]; exact s7 _ _ hS6
      · rw [upd_ne nmd]; exact s7 _ _ hD6
      · rw [lkO (notFN hx).2.2.2.2.2.2]; exact o6 x hx
      · rw [upd_ne n]; exact s7 _ _ (k6 x o e n)
end
end KP

set_option Elab.async false
set_option maxRecDepth 100000
set_option maxHeartbeats 4000000
set_option linter.all false
/-! Ours: the machine's steps. -/
namespace KP
open PySem PySem.Spec PyProof.Rows L2 Gr GxR PM
abbrev JB (bs : List Str) : List Nat := jn (bs.map bl)
theorem iteP {c A B : Prop} [Decidable c] (hc : c) (h : A) : if c then A else B := by rw [if_pos hc]; exact h
theorem iteN {c A B : Prop} [Decidable c] (hc : ¬ c) (h : B) : if c then A else B := by rw [if_neg hc]; exact h
theorem starsLt (bs : List Str) : starsOf (JB bs) (JB bs).length < 2 ^ (JB bs).length := bits_lt _ _
theorem cpow1 {a n : Nat} (h : a < 2 ^ (n + 1)) (hn : n ≤ 84) : CShl (a : Int) 1 := shl_ok (n := n + 1) (j := 1) (by simpa using h) (by omega)
theorem and_lt {a b n : Nat} (h : a < 2 ^ n) : a &&& b < 2 ^ n := Nat.lt_of_le_of_lt Nat.and_le_left h
def spClosed {K : PySem.W.Frag} {mg : Str → Option Value} (T : D K mg) : Sp := fun vs H Q _ => ∃ (m le : Addr) (bs : List Str) (x : Nat), vs = [.ref m, .int (x : Nat)] ∧ Mach T H m le bs ∧ (JB bs).length ≤ 84 ∧ x < 2 ^ ((JB bs).length + 1) ∧
  ∀ c : Nat, (∀ i, c.testBit i = clo ((starsOf (JB bs) (JB bs).length).testBit ·) (x.testBit ·) i) → Q (.int (c : Nat)) H
section
variable {P : Program} {w : World} {K : PySem.W.Frag} {mg : Str → Option Value} {base : Heap}
theorem sc_closed : FnScope ["self", "standing", "grown"] ["self", "standing"] (defScope s__closed) := ⟨rfl, rfl, rfl, by decide +kernel, rfl, by decide +kernel, by decide +kernel⟩
theorem ok_closed (T : D K mg) : FnOk P w K mg base CX0 1 T.f__closed T.d__closed ["self", "standing"] (spClosed T) := by
  refine T.U__closed.ok sc_closed (fun vs H Q E h => ?_) (fun cdv A outer s H vs Q E hr h => ?_)
  · obtain ⟨m, le, bs, x, rfl, _⟩ := h
    rfl
  · obtain ⟨m, le, bs, x, rfl, ⟨dx, ls, md, fs, kvs, hm, ⟨l2, h2⟩, ⟨l3, h3⟩, l4, l5, _⟩, hb, hx, k⟩ := h
    have nd := sc_closed.nd
    refine ⟨_, pss_cons (ps_set (i := 2) nd rfl (.inl rfl) (pe_op op_or (pv 1) (pe_op op_shlW (pe_op op_and (pv 1) (pe_fld (pv 0) rfl)) pe_int)))
      (pss_cons (ps_while PassesOwn.never (pt_cmpR op_ne (pv 2) (pv 1) (nomark _))
        (pss_cons (ps_set (i := 1) nd rfl (.inl rfl) (pv 2))
        (pss_one (ps_set (i := 2) nd rfl (.inl rfl) (pe_op op_or (pv 1) (pe_op op_shlW (pe_op op_and (pv 1) (pe_fld (pv 0) rfl)) pe_int))))))
      (pss_one (ps_ret (pv 1)))), ?_⟩
    have ge : ∀ a : Nat, Builtin.bitOr (a : Int) (Builtin.bitAnd (a : Int) ((starsOf (JB bs) (JB bs).length : Nat) : Int) * 2 ^ (1 : Int).toNat) = ((grow (starsOf (JB bs) (JB bs).length) a : Nat) : Int) := fun a => by
      rw [nand, nshl1, nor]
      rfl
    have cp : ∀ a : Nat, a < 2 ^ ((JB bs).length + 1) → CShl (Builtin.bitAnd (a : Int) ((starsOf (JB bs) (JB bs).length : Nat) : Int)) 1 := fun a ha => by
      rw [nand]
      exact cpow1 (and_lt ha) hb
    refine ⟨_, rfl, _, rfl, _, rfl, m, _, dx, fs, _, rfl, hm, T.cl_Machine, T.n_stars, l4, _, _, rfl, rfl, _, _, rfl, rfl, cp x hx, _, _, rfl, rfl, ?_⟩
    dsimp only
    rw [ge]
    refine ⟨fun n σ H' => H' = H ∧ ∃ a : Nat, σ = [some (.ref m), some (.int (a : Nat)), some (.int (grow (starsOf (JB bs) (JB bs).length) a : Nat))] ∧ a < 2 ^ ((JB bs).length + 1) ∧ n = 2 ^ ((JB bs).length + 1) - a ∧ (∀ i, x.testBit i = true → a.testBit i = true) ∧
      ∀ i, a.testBit i = true → clo ((starsOf (JB bs) (JB bs).length).testBit ·) (x.testBit ·) i = true, ⟨_, rfl, x, rfl, hx, rfl, fun i e => e, fun i e => ?_⟩, ?_⟩
    · cases i with
      | zero => exact e
      | succ i =>
        unfold clo
        rw [e]
        rfl
    · rintro n σ H' ⟨rfl, a, rfl, ha, rfl, h0, h1⟩
      refine ⟨_, rfl, _, rfl, rfl, _, rfl, ?_⟩
      by_cases hg : grow (starsOf (JB bs) (JB bs).length) a = a
      · rw [hg]
        refine iteNS rfl ?_
        refine ⟨_, rfl, k a (clo_of (c := a) h0 h1 hg)⟩
      · have hlt : grow (starsOf (JB bs) (JB bs).length) a < 2 ^ ((JB bs).length + 1) := grow_lt ha (starsLt bs)
        have hge := grow_ge (starsOf (JB bs) (JB bs).length) a
        have hn : (!decide (V.int ((grow (starsOf (JB bs) (JB bs).length) a : Nat) : Int) = V.int ((a : Nat) : Int))) = true := by
          have : ¬ V.int ((grow (starsOf (JB bs) (JB bs).length) a : Nat) : Int) = V.int ((a : Nat) : Int) := fun e => hg (Int.ofNat.inj (V.int.inj e))
          rw [decide_eq_false this]
          rfl
        refine iteP hn ?_
        refine ⟨fun σ' H'' => H'' = H' ∧ σ' = [some (.ref m), some (.int ((grow (starsOf (JB bs) (JB bs).length) a : Nat) : Int)), some (.int (grow (starsOf (JB bs) (JB bs).length) (grow (starsOf (JB bs) (JB bs).length) a) : Nat))], ?_, ?_⟩
        · rintro σ' H'' ⟨rfl, rfl⟩
          refine ⟨2 ^ ((JB bs).length + 1) - grow (starsOf (JB bs) (JB bs).length) a, by omega, rfl, _, rfl, hlt, rfl, fun i e => grow_keeps (h0 i e), grow_sub h1⟩
        · refine ⟨_, rfl, _, rfl, _, rfl, _, rfl, m, _, dx, fs, _, rfl, hm, T.cl_Machine, T.n_stars, l4, _, _, rfl, rfl, _, _, rfl, rfl, cp _ hlt, _, _, rfl, rfl, rfl, ?_⟩
          rw [← ge (grow (starsOf (JB bs) (JB bs).length) a)]
          rfl
/-- one sign more -/
def spStep {K : PySem.W.Frag} {mg : Str → Option Value} (T : D K mg) : Sp := fun vs H Q _ => ∃ (m le : Addr) (bs : List Str) (x c : Nat), vs = [.ref m, .int (x : Nat), .str ⟨#[c]⟩] ∧ c ≠ 0 ∧ Mach T H m le bs ∧ (JB bs).length ≤ 84 ∧ x < 2 ^ ((JB bs).length + 1) ∧
  ∀ y : Nat, (∀ i, y.testBit i = clo ((starsOf (JB bs) (JB bs).length).testBit ·) ((stepped (JB bs) (JB bs).length x c).testBit ·) i) → Q (.int (y : Nat)) H
theorem heldLt (bs : List Str) : heldOf (JB bs) (JB bs).length < 2 ^ ((JB bs).length + 1) := by
  have := bits_lt (isSt (JB bs)) (JB bs).length
  unfold heldOf
  rw [Nat.pow_succ]
  omega
theorem steppedLt (bs : List Str) (x c : Nat) : stepped (JB bs) (JB bs).length x c < 2 ^ ((JB bs).length + 1) := by
  unfold stepped
  refine Nat.or_lt_two_pow ?_ ?_
  · have h1 : x &&& moveOf (JB bs) c (JB bs).length < 2 ^ (JB bs).length := Nat.lt_of_le_of_lt Nat.and_le_right (bits_lt _ _)
    rw [Nat.pow_succ]
    omega
  · exact Nat.lt_of_le_of_lt Nat.and_le_right (heldLt bs)
theorem sc_step : FnScope ["self", "standing", "sign", "moved"] ["self", "standing", "sign"] (defScope s_step) := ⟨rfl, rfl, rfl, by decide +kernel, rfl, by decide +kernel, by decide +kernel⟩
theorem ok_step (T : D K mg) : FnOk P w K mg base CX0 2 T.f_step T.d_step ["self", "standing", "sign"] (spStep T) := by
  refine T.U_step.ok sc_step (fun vs H Q E h => ?_) (fun cdv A outer s H vs Q E hr h => ?_)
  · obtain ⟨m, le, bs, x, c, rfl, _⟩ := h
    rfl
  · obtain ⟨m, le, bs, x, c, rfl, hc0, M, hb, hx, k⟩ := h
    obtain ⟨dx, ls, md, fs, kvs, hm, ⟨l2, h2⟩, ⟨l3, h3⟩, l4, l5, ⟨l6, h6, kv⟩, l7⟩ := id M
    have nd := sc_step.nd
    have hu := hu_of hr
    refine ⟨_, pss_cons (ps_set (i := 3) nd rfl (.inl rfl) (pe_op op_shlW (pe_op op_and (pv 1) (pe_dget2 hu (pe_fld (pv 0) rfl) (pv 2) pe_int ⟨by rfl, by rfl, by rfl, by rfl⟩)) pe_int))
      (pss_one (ps_ret (pe_meth (pv 0) T.cl_Machine T.M__closed (ok_closed T) hr T.b__closed .nil pass0 (pa_cons (pe_op op_or (pv 3) (pe_op op_and (pv 1) (pe_fld (pv 0) rfl))) pa_nil)))), ?_⟩
    have e0 : Builtin.bitAnd (x : Int) ((moveOf (JB bs) c (JB bs).length : Nat) : Int) = ((x &&& moveOf (JB bs) c (JB bs).length : Nat) : Int) := nand _ _
    refine ⟨_, rfl, _, rfl, m, _, dx, fs, _, rfl, hm, T.cl_Machine, T.n_moves, l6, md, rfl, .inl ⟨kvs, .inl h6⟩, _, rfl, _, DGet.k (k := Sum.inr (⟨#[c]⟩ : Str)) h6, _, _, rfl, kv.get c hc0, _, _, rfl, rfl, ?_, ?_⟩
    · rw [nand]
      exact cpow1 (and_lt hx) hb
    · refine ⟨_, rfl, m, dx, fs, rfl, hm, l7 _ (by decide +kernel), _, rfl, _, rfl, _, rfl, m, _, dx, fs, _, rfl, hm, T.cl_Machine, T.n_held, l5, _, _, rfl, rfl, _, _, rfl, rfl, m, le, bs, stepped (JB bs) (JB bs).length x c, ?_, M, hb, steppedLt bs x c, k⟩
      have : Builtin.bitOr (Builtin.bitAnd (x : Int) ((moveOf (JB bs) c (JB bs).length : Nat) : Int) * 2 ^ (1 : Int).toNat) (Builtin.bitAnd (x : Int) ((heldOf (JB bs) (JB bs).length : Nat) : Int)) = ((stepped (JB bs) (JB bs).length x c : Nat) : Int) := by
        rw [nand, nand, nshl1, nor]
        rfl
      rw [← this]
      rfl
end
end KP

set_option Elab.async false
set_option maxRecDepth 100000
set_option maxHeartbeats 4000000
set_option linter.all false
/-! Ours: where a machine of several bodies stands behind a path. -/
namespace KP
open PySem PySem.Spec PyProof.Rows L2 Gr GxR PM
def Beg (bs : List Str) : Prop := ∀ b ∈ bs, (bl b)[0]? = some 47
theorem Beg.map {bs : List Str} (h : Beg bs) : ∀ b ∈ bs.map bl, b[0]? = some 47 := fun b hb => by
  obtain ⟨c, hc, rfl⟩ := List.mem_map.mp hb
  exact h c hc
def spBegun {K : PySem.W.Frag} {mg : Str → Option Value} (T : D K mg) : Sp := fun vs H Q _ => ∃ (m le : Addr) (bs : List Str), vs = [.ref m] ∧ Mach T H m le bs ∧ (JB bs).length ≤ 84 ∧ bs.length ≤ 6 ∧ Beg bs ∧
  ∀ (y : Nat) (H' : Hp), Same H H' → PlG (JB bs) (stB (bs.map bl)) [47] 1 y → Q (.int (y : Nat)) H'
section
variable {P : Program} {w : World} {K : PySem.W.Frag} {mg : Str → Option Value} {base : Heap}
theorem sum_cast : ∀ l : List Nat, (l.map fun f => ((2 ^ f : Nat) : Int)).sum = ((l.map fun f => 2 ^ f).sum : Nat)
  | [] => rfl
  | f :: l => by rw [List.map_cons, List.sum_cons, sum_cast l, List.map_cons, List.sum_cons, Int.natCast_add]
theorem sc_begun : FnScope ["self", "first"] ["self"] (defScope s_begun) := ⟨rfl, rfl, rfl, by decide +kernel, rfl, by decide +kernel, by decide +kernel⟩
theorem ok_begun (T : D K mg) : FnOk P w K mg base CX0 3 T.f_begun T.d_begun ["self"] (spBegun T) := by
  refine T.U_begun.ok sc_begun (fun vs H Q E h => ?_) (fun cdv A outer s H vs Q E hr h => ?_)
  · obtain ⟨m, le, bs, rfl, _⟩ := h
    rfl
  · obtain ⟨m, le, bs, rfl, M, hb, l6', h0, k⟩ := h
    obtain ⟨dx, ls, md, fs, kvs, hm, ⟨l2, h2⟩, ⟨l3, h3⟩, l4, l5, ⟨l6, h6, kv⟩, l7⟩ := id M
    have nd := sc_begun.nd
    refine ⟨_, pss_one (ps_ret (pe_meth (pv 0) T.cl_Machine T.M_step (ok_step T) hr T.b_step .nil pass0 (pa_cons (pe_callB (cr_sum rfl) (by rfl) T.sum (by decide +kernel) (pa_cons (pe_lc (own := [("first", 1)]) (g := gName 1) (tt := tYes) rfl nd (pi_list (pe_fld (pv 0) rfl)) (blkOk_by (N := ["self", "first"]) (sc := defScope s_begun) (by decide +kernel)) (fun _ _ _ _ _ => pg_name (i := 1) nd rfl (.inl rfl)) (fun _ _ _ _ _ => pts_nil) (fun _ _ _ _ _ => pe_op op_shl pe_int (pv 1))) pa_nil)) (pa_cons pe_str pa_nil)))), ?_⟩
    have fl : (fst' 0 (bs.map bl)).length = bs.length := by rw [fst_len, List.length_map]
    have hpl := begin_pl h0.map [47]
    have fs84 : ∀ f ∈ fst' 0 (bs.map bl), f ≤ 84 := fun f hf => by
      have t := (sum_fst (bs.map bl) 0).2 f
      rw [decide_eq_true hf, hpl f] at t
      have := of_decide_eq_true (Bool.and_eq_true_iff.mp t).1
      have hb' : (jn (bs.map bl)).length ≤ 84 := hb
      omega
    refine ⟨_, rfl, m, dx, fs, rfl, hm, l7 _ (by decide +kernel), _, rfl, m, _, dx, fs, _, rfl, hm, T.cl_Machine, T.n_starts, l3, ls, rfl, ⟨_, SqL.of h3⟩, fun D hD => lc_list (K := K) (a := ls) (xs := (fst' 0 (bs.map bl)).map fun e => V.int (e : Nat)) (fun i H2 => Same H H2 ∧ H2 D = some (.lst ((((fst' 0 (bs.map bl)).take i).map fun f => ((2 ^ f : Nat) : Int)).map V.int)))
      ⟨same_upd hD, upd_same⟩ (fun i H2 _ h => SqL.of (h.1 _ _ h3)) ?_ ?_⟩
    · rintro i y H2 hi ⟨s2, hDs⟩
      rw [List.getElem?_map] at hi
      obtain ⟨f, hf, rfl⟩ := Option.map_eq_some_iff.mp hi
      have hfl := fs84 f (List.mem_of_getElem? hf)
      have e2 : (1 : Int) * 2 ^ ((f : Nat) : Int).toNat = ((2 ^ f : Nat) : Int) := by
        rw [Int.toNat_natCast, Int.one_mul]
        exact (Int.natCast_pow 2 f).symm
      refine ⟨rfl, ?_⟩
      unfold tYes
      refine iteT ⟨_, rfl, _, _, rfl, rfl, ⟨by omega, by omega, by decide⟩, _, hDs, ?_, same_into hD s2, ?_⟩
      · rw [List.length_map, List.length_map, List.length_take]
        have : 1000 ≤ sizeLine := by decide
        omega
      · dsimp only
        rw [e2, upd_same, List.take_add_one, hf, List.map_append, List.map_append]
        rfl
    · rintro H2 ⟨s2, hDs⟩
      rw [List.length_map, List.take_length] at hDs
      refine ⟨D, _, rfl, SqL.of hDs, m, le, bs, ((fst' 0 (bs.map bl)).map fun f => 2 ^ f).sum, 47, ?_, by decide, M.stay (.same s2), hb, ?_, fun y hy => k y _ s2 fun i => ?_⟩
      · rw [sum_cast]
        rfl
      · exact plG_lt hpl
      · rw [hy i]
        exact clo_stepG hpl rfl i
/-- all signs of a path -/
def spBehind {K : PySem.W.Frag} {mg : Str → Option Value} (T : D K mg) : Sp := fun vs H Q _ => ∃ (m le : Addr) (bs : List Str) (r : Str), vs = [.ref m, .str r] ∧ Mach T H m le bs ∧ (JB bs).length ≤ 84 ∧ bs.length ≤ 6 ∧ Beg bs ∧ (bl r)[0]? = some 47 ∧ (∀ c ∈ bl r, c ≠ 0) ∧ r.length ≤ 1000 ∧
  ∀ (y : Nat) (H' : Hp), Same H H' → PlG (JB bs) (stB (bs.map bl)) (bl r) r.length y → Q (.int (y : Nat)) H'
theorem sc_behind : FnScope ["self", "path", "standing", "sign"] ["self", "path"] (defScope s_behind) := ⟨rfl, rfl, rfl, by decide +kernel, rfl, by decide +kernel, by decide +kernel⟩
theorem ok_behind (T : D K mg) : FnOk P w K mg base CX0 4 T.f_behind T.d_behind ["self", "path"] (spBehind T) := by
  refine T.U_behind.ok sc_behind (fun vs H Q E h => ?_) (fun cdv A outer s H vs Q E hr h => ?_)
  · obtain ⟨m, le, bs, r, rfl, _⟩ := h
    rfl
  · obtain ⟨m, le, bs, r, rfl, M, hb, l6', h0, hr0, hrn, hrl, k⟩ := h
    obtain ⟨dx, ls, md, fs, kvs, hm, ⟨l2, h2⟩, ⟨l3, h3⟩, l4, l5, ⟨l6, h6, kv⟩, l7⟩ := id M
    have nd := sc_behind.nd
    refine ⟨_, pss_cons (ps_set (i := 2) nd rfl (.inl rfl) (pe_meth0 (pv 0) T.cl_Machine T.M_begun (ok_begun T) hr T.b_begun .nil pass0))
      (pss_cons (ps_for PassesOwn.never rfl (pi_str (pe_slice sl_str (pv 1) (po_some pe_int) po_none)) (pg_name (i := 3) nd rfl (.inl rfl))
        (pss_one (ps_set (i := 2) nd rfl (.inl rfl) (pe_meth (pv 0) T.cl_Machine T.M_step (ok_step T) (hr.mono (by decide)) T.b_step .nil pass0 (pa_cons (pv 2) (pa_cons (pv 3) pa_nil))))))
      (pss_one (ps_ret (pv 2)))), ?_⟩
    refine ⟨_, rfl, m, dx, fs, rfl, hm, l7 _ (by decide +kernel), m, le, bs, rfl, M, hb, l6', h0, fun y0 H1 s1 hy0 => ?_⟩
    have hz : r.length ≤ sizeLine := Nat.le_trans hrl (by decide)
    have cutE : bl (cutS r (some 1) none) = (bl r).drop 1 := cut_from r 1
    have lr : 1 ≤ r.length := by
      rw [tx_len]
      exact (List.getElem?_eq_some_iff.mp hr0).1
    have lc : (cutS r (some 1) none).cps.size = r.length - 1 := by
      have : (cutS r (some 1) none).cps.size = (bl (cutS r (some 1) none)).length := rfl
      rw [this, cutE, List.length_drop]
      rfl
    refine ⟨_, rfl, _, rfl, r, rfl, hz, _, rfl, for_it (walk_str (z := cutS r (some 1) none)) (fun i σ H2 => H2 = H1 ∧ ∃ (y : Nat) (v : Option V), σ = [some (.ref m), some (.str r), some (.int (y : Nat)), v] ∧ PlG (JB bs) (stB (bs.map bl)) (bl r) (i + 1) y) ⟨rfl, y0, none, rfl, ?_⟩ (fun _ _ _ _ _ => trivial) ?_ ?_⟩
    · refine plG_local hy0 fun j hj => ?_
      have : j = 0 := by omega
      subst this
      exact hr0.symm
    · rintro i x σ H2 H3 hi ⟨rfl, y, v, rfl, hy⟩ ⟨rfl, c, hc, rfl⟩
      have hc' : (bl r)[i + 1]? = some c := by
        have e1 : (bl (cutS r (some 1) none))[i]? = some c := (Array.getElem?_toList (xs := (cutS r (some 1) none).cps) (i := i)).trans hc
        rw [cutE, List.getElem?_drop] at e1
        rw [Nat.add_comm]
        exact e1
      refine ⟨_, rfl, m, dx, fs, rfl, s1 _ _ hm, l7 _ (by decide +kernel), _, rfl, _, rfl, m, le, bs, y, c, rfl, hrn c (List.mem_of_getElem? hc'), M.stay (.same s1), hb, plG_lt hy, fun z hz => ⟨rfl, z, _, rfl, fun j => ?_⟩⟩
      rw [hz j]
      exact clo_stepG hy hc' j
    · rintro σ H2 ⟨rfl, y, v, rfl, hy⟩
      refine ⟨_, rfl, k y _ s1 ?_⟩
      have e : (cutS r (some 1) none).cps.size + 1 = r.length := by omega
      rw [e] at hy
      exact hy
end
end KP

set_option Elab.async false
set_option maxRecDepth 100000
set_option maxHeartbeats 4000000
set_option linter.all false
/-! Ours: decided, machine_of. -/
namespace KP
open PySem PySem.Spec PyProof.Rows L2 Gr GxR PM
def optN : Option Nat → V
  | none => .non
  | some i => .int (i : Nat)
def firstBit (s : Nat) (es : Nat → Nat) (os : List Nat) : Option Nat := os.find? fun i => decide (s &&& es i ≠ 0)
def spDecided : Sp := fun vs H Q _ => ∃ (ra : Addr) (s : Nat) (xs : List V) (os : List Nat) (es : Nat → Nat) (bb : Nat → Bool), vs = [.ref ra, .int (s : Nat)] ∧ H ra = some (.lst xs) ∧ OdAll H xs (os.map fun i => .tuple [.int (es i : Nat), .int (i : Nat), .bool (bb i)]) ∧ Q (optN (firstBit s es os)) H
section
variable {P : Program} {w : World} {K : PySem.W.Frag} {mg : Str → Option Value} {base : Heap}
theorem sc_decided : FnScope ["ranks", "standing", "end", "index", "_"] ["ranks", "standing"] (defScope s_decided) := ⟨rfl, rfl, rfl, by decide +kernel, rfl, by decide +kernel, by decide +kernel⟩
theorem ok_decided (T : D K mg) : FnOk P w K mg base CX0 1 T.f_decided T.d_decided ["ranks", "standing"] spDecided := by
  refine T.U_decided.ok sc_decided (fun vs H Q E h => ?_) (fun cdv A outer s H vs Q E hr h => ?_)
  · obtain ⟨ra, st, xs, os, es, bb, rfl, _⟩ := h
    rfl
  · obtain ⟨ra, st, xs, os, es, bb, rfl, er, ox, k⟩ := h
    have nd := sc_decided.nd
    refine ⟨_, pss_cons (ps_for PassesOwn.never rfl (pi_list (pv 0)) (pg_tup rfl (pgs_cons (pg_name (i := 2) nd rfl (.inl rfl)) (pgs_cons (pg_name (i := 3) nd rfl (.inl rfl)) (pgs_cons (pg_name (i := 4) nd rfl (.inl rfl)) pgs_nil))))
        (pss_one (ps_if (pt_truth (pe_op op_and (pv 1) (pv 2)) (by intro _; rfl))
          (pss_one (ps_ret (pv 3)))
          (pss_nil))))
      (pss_one (ps_ret pe_non)), ?_⟩
    have lx : xs.length = os.length := by rw [ox.len, List.length_map]
    refine ⟨_, rfl, ra, rfl, ⟨_, SqL.of er⟩, for_list (K := K) (a := ra) (xs := xs) (fun j σ Hx => Hx = H ∧ (∀ i ∈ os.take j, st &&& es i = 0) ∧ ∃ v2 v3 v4, σ = [some (.ref ra), some (.int (st : Nat)), v2, v3, v4]) ⟨rfl, (fun _ h => nomatch h), none, none, none, rfl⟩ (fun j σ Hx _ q => by rw [q.1]; exact SqL.of er) ?_ ?_⟩
    · rintro j x σ Hx hx ⟨rfl, hno, v2, v3, v4, rfl⟩
      obtain ⟨d, hd, od⟩ := od_at ox hx
      rw [List.getElem?_map] at hd
      obtain ⟨i, hi, rfl⟩ := Option.map_eq_some_iff.mp hd
      obtain ⟨b, bx, rfl, eb, ob⟩ := od_tup od
      match bx, ob with
      | [ev, iv, bv], .cons o1 (.cons o2 (.cons o3 .nil)) =>
      cases o1
      cases o2
      cases o3
      have et : os.take (j + 1) = os.take j ++ [i] := by rw [List.take_add_one, hi]; rfl
      refine ⟨b, _, rfl, SqT.of eb, rfl, ?_⟩
      refine ⟨_, _, rfl, _, _, rfl, _, _, rfl, rfl, ?_⟩
      have hb : Builtin.bitAnd ((st : Nat) : Int) ((es i : Nat) : Int) = ((st &&& es i : Nat) : Int) := nand _ _
      refine ⟨_, rfl, _, rfl, _, _, rfl, rfl, (Builtin.bitAnd ((st : Nat) : Int) ((es i : Nat) : Int) != 0), rfl, ?_⟩
      rw [hb]
      have hz : (((st &&& es i : Nat) : Int) != 0) = decide (st &&& es i ≠ 0) := by
        rw [Bool.eq_iff_iff, bne_iff_ne, decide_eq_true_eq]
        omega
      rw [hz]
      refine ite2 (fun h => ?_) (fun h => ?_)
      · refine ⟨_, rfl, ?_⟩
        have h := of_decide_eq_true h
        have hf : firstBit st es os = some i := by
          obtain ⟨hj, hje⟩ := List.getElem?_eq_some_iff.mp hi
          unfold firstBit
          rw [List.find?_eq_some_iff_append]
          refine ⟨decide_eq_true h, os.take j, os.drop (j + 1), ?_, fun a ha => ?_⟩
          · rw [← hje, ← List.drop_eq_getElem_cons hj, List.take_append_drop]
          · rw [decide_eq_false (fun q => q (hno a ha))]
            rfl
        rw [hf] at k
        exact k
      · refine ⟨rfl, fun a ha => ?_, _, _, _, rfl⟩
        rw [et] at ha
        rcases List.mem_append.mp ha with q | q
        · exact hno a q
        · rw [List.mem_singleton.mp q]
          exact Decidable.not_not.mp fun z => h (decide_eq_true z)
    · rintro σ Hx ⟨rfl, hno, v2, v3, v4, rfl⟩
      rw [lx, List.take_length] at hno
      have : firstBit st es os = none := by
        unfold firstBit
        rw [List.find?_eq_none]
        intro i hi h
        exact of_decide_eq_true h (hno i hi)
      rw [this] at k
      exact k
end
end KP

set_option Elab.async false
set_option maxRecDepth 100000
set_option maxHeartbeats 4000000
set_option linter.all false
/-! Ours: the machine of rows. -/
namespace KP
open PySem PySem.Spec PyProof.Rows L2 Gr GxR PM
section
variable {K : PySem.W.Frag} {mg : Str → Option Value} {T : D K mg} {H H1 H2 : Hp}
theorem TT2.same (h : TT2 T H) (s : Same H H1) : TT2 T H1 := ⟨let ⟨ps, a, b⟩ := h.1; ⟨ps, s _ _ a, b⟩, let ⟨ps, a, b⟩ := h.2; ⟨ps, s _ _ a, b⟩⟩
theorem Up.refl (h : TT2 T H) : Up T H H := ⟨h, fun _ _ _ _ e => e⟩
theorem Up.trans (a : Up T H H1) (b : Up T H1 H2) : Up T H H2 := ⟨b.1, fun x n1 n2 o e => b.2 x n1 n2 o (a.2 x n1 n2 o e)⟩
theorem Up.same (h : TT2 T H) (s : Same H H1) : Up T H H1 := ⟨h.same s, fun x _ _ o e => s x o e⟩
theorem Up.path (h : TT2 T H) (t : Tabbed T.P_is_path H H1) : Up T H H1 := by
  refine ⟨⟨t.1, ?_⟩, fun x n _ o e => (t.2 x n).trans e⟩
  by_cases q : T.P_is_pattern = T.P_is_path
  · rw [q]
    exact t.1
  · obtain ⟨ps, a, b⟩ := h.2
    exact ⟨ps, (t.2 _ q).trans a, b⟩
theorem Up.pat (h : TT2 T H) (t : Tabbed T.P_is_pattern H H1) : Up T H H1 := by
  refine ⟨⟨?_, t.1⟩, fun x _ n o e => (t.2 x n).trans e⟩
  by_cases q : T.P_is_path = T.P_is_pattern
  · rw [q]
    exact t.1
  · obtain ⟨ps, a, b⟩ := h.1
    exact ⟨ps, (t.2 _ q).trans a, b⟩
theorem Up.stay (h : TT2 T H) (u : Up T H H1) : Stay H H1 := fun a o e n => by
  obtain ⟨⟨p1, e1, _⟩, ⟨p2, e2, _⟩⟩ := h
  refine u.2 a (fun z => ?_) (fun z => ?_) o e
  · rw [z, e1] at e
    exact n _ (Option.some.inj e).symm
  · rw [z, e2] at e
    exact n _ (Option.some.inj e).symm
end
/-! bodies -/
theorem body_list (z : Str) : bl (bodyOf z) = if (bl z).getLast? == some 36 then (bl z).dropLast else bl z ++ [42] := by
  unfold bodyOf
  cases h : (bl z).getLast? == some 36 with
  | true =>
    have : (if true = true then cutS z none (some (-1)) else z ++ ("*" : Str)) = cutS z none (some (-1)) := rfl
    show bl (if true = true then cutS z none (some (-1)) else z ++ ("*" : Str)) = _
    rw [this]
    exact cut_head z
  | false =>
    show bl (z ++ ("*" : Str)) = _
    rw [lit_star]
    exact tx_app _ _
theorem isPat_inner {z : Str} (h : isPat z = true) : (innerOf z)[0]? = some 47 ∧ ∀ c ∈ innerOf z, c = 42 ∨ c ∈ SG := by
  unfold isPat at h
  rw [Bool.and_eq_true, Bool.and_eq_true] at h
  obtain ⟨_, h2⟩ := h
  rw [Bool.and_eq_true] at h2
  refine ⟨by simpa using h2.1, fun c hc => ?_⟩
  have := List.all_eq_true.mp h2.2 c hc
  simpa using this
theorem body_first {z : Str} (h : isPat z = true) : (bl (bodyOf z))[0]? = some 47 := by
  have h1 := (isPat_inner h).1
  rw [body_list]
  unfold innerOf at h1
  by_cases q : ((bl z).getLast? == some 36) = true
  · rw [if_pos q] at h1 ⊢
    exact h1
  · rw [if_neg q] at h1 ⊢
    obtain ⟨l, e⟩ := List.getElem?_eq_some_iff.mp h1
    rw [List.getElem?_append_left l]
    exact h1
theorem body_st0 {z : Str} (h : isPat z = true) : isSt (bl (bodyOf z)) 0 = false := by
  unfold isSt
  rw [body_first h]
  rfl
theorem body_len {z : Str} (h : isPat z = true) : (bodyOf z).length ≤ 13 := by
  have l := isPat_len h
  have e : (bodyOf z).length = (bl (bodyOf z)).length := rfl
  rw [e, body_list]
  have e2 : z.length = (bl z).length := rfl
  split
  · rw [List.length_dropLast]
    omega
  · rw [List.length_append, List.length_singleton]
    omega
def plcs (b r : List Nat) : List Nat := (List.range (b.length + 1)).filter fun i => F b r i r.length
theorem plcs_of {b r : List Nat} {y : Nat} (h : Pl b r r.length y) : ((List.range (b.length + 1)).filter (y.testBit ·)) = plcs b r := by
  unfold plcs
  refine List.filter_congr fun i hi => ?_
  rw [h i, decide_eq_true (by have := List.mem_range.mp hi; omega), Bool.true_and]
def met (b r : List Nat) : Bool := F b r b.length r.length
theorem plcs_in (b r : List Nat) : inV (.int (b.length : Nat)) ((plcs b r).map fun i => V.int (i : Nat)) = met b r := by
  unfold inV met
  rw [Bool.eq_iff_iff, List.any_eq_true]
  constructor
  · rintro ⟨v, hv, e⟩
    obtain ⟨i, hi, rfl⟩ := List.mem_map.mp hv
    have : (i : Int) = (b.length : Nat) := by
      have q : (((i : Nat) : Int) == ((b.length : Nat) : Int)) = true := e
      simpa using q
    have hib : i = b.length := by omega
    rw [← hib]
    exact (List.mem_filter.mp hi).2
  · intro h
    refine ⟨.int (b.length : Nat), List.mem_map.mpr ⟨b.length, List.mem_filter.mpr ⟨List.mem_range.mpr (Nat.lt_succ_self _), h⟩, rfl⟩, ?_⟩
    show (((b.length : Nat) : Int) == ((b.length : Nat) : Int)) = true
    simp
theorem plcs_flat (l : List Nat) : (l.map fun i => V.int (i : Nat)).all flatV = true := by
  rw [List.all_eq_true]
  intro v hv
  obtain ⟨i, _, rfl⟩ := List.mem_map.mp hv
  rfl
theorem isPath_first {r : Str} (h : isPath r = true) : (bl r)[0]? = some 47 := by
  unfold isPath at h
  rw [Bool.and_eq_true] at h
  simpa using h.1
theorem Up.put {K : PySem.W.Frag} {mg : Str → Option Value} {T : D K mg} {H H1 : Hp} {D : Addr} {xs : List V} {o : HO} (u : Up T H H1) (n : H D = none) (e : H1 D = some (.lst xs)) : Up T H (upd H1 D o) := by
  obtain ⟨⟨⟨p1, e1, t1⟩, ⟨p2, e2, t2⟩⟩, k⟩ := u
  refine ⟨⟨⟨p1, (upd_ne fun z => ?_).trans e1, t1⟩, ⟨p2, (upd_ne fun z => ?_).trans e2, t2⟩⟩, fun x n1 n2 o' ex => (upd_ne (ne_of_none ex n)).trans (k x n1 n2 o' ex)⟩
  · rw [z, e] at e1; cases e1
  · rw [z, e] at e2; cases e2
theorem Up.none {K : PySem.W.Frag} {mg : Str → Option Value} {T : D K mg} {H H1 : Hp} {a : Addr} (u : Up T H H1) (n : H1 a = none) : H a = none := by
  cases e : H a with
  | none => rfl
  | some o =>
    obtain ⟨⟨⟨p1, e1, _⟩, ⟨p2, e2, _⟩⟩, k⟩ := u
    by_cases z1 : a = T.P_is_path
    · rw [z1, e1] at n; cases n
    · by_cases z2 : a = T.P_is_pattern
      · rw [z2, e2] at n; cases n
      · rw [k a z1 z2 o e] at n; cases n
theorem body_ok {z : Str} (h : isPat z = true) : BodyOk (bodyOf z) := by
  refine ⟨body_len h, fun c hc => ?_⟩
  have hi := (isPat_inner h).2
  rw [body_list] at hc
  unfold innerOf at hi
  by_cases q : ((bl z).getLast? == some 36) = true
  · rw [if_pos q] at hi hc
    exact hi c hc
  · rw [if_neg q] at hi hc
    rcases List.mem_append.mp hc with a | a
    · exact hi c a
    · exact .inl (List.mem_singleton.mp a)
def bodies (rows : List (Str × Str)) : List Str := rows.map fun r => bodyOf r.2
def spMachOf {K : PySem.W.Frag} {mg : Str → Option Value} (T : D K mg) : Sp := fun vs H Q _ => ∃ (pv : V) (rows : List (Str × Str)), vs = [pv] ∧ Od H pv (.tuple (rows.map rowP)) ∧ rows.length ≤ 6 ∧ (∀ r ∈ rows, isPat r.2 = true) ∧ TT2 T H ∧
  ∀ (m le : Addr) (H' : Hp), H m = none → H le = none → Up T H H' → Mach T H' m le (bodies rows) → Q (.ref m) H'
section
variable {P : Program} {w : World} {K : PySem.W.Frag} {mg : Str → Option Value} {base : Heap}
theorem sc_machof : FnScope ["paths", "_", "pattern"] ["paths"] (defScope s_machine_of) := ⟨rfl, rfl, rfl, by decide +kernel, rfl, by decide +kernel, by decide +kernel⟩
theorem ok_machof (T : D K mg) (TB : Tabs base T) : FnOk P w K mg base CX0 5 T.f_machine_of T.d_machine_of ["paths"] (spMachOf T) := by
  refine T.U_machine_of.ok sc_machof (fun vs H Q E h => ?_) (fun cdv A outer s H vs Q E hr h => ?_)
  · obtain ⟨pv, rows, rfl, _⟩ := h
    rfl
  · obtain ⟨pv', rows, rfl, oP, l6, hpat, hT, k⟩ := h
    have nd := sc_machof.nd
    refine ⟨_, pss_one (ps_ret (pe_make T.mk_Machine (ok_init T) (hr.mono (by decide)) rfl T.g_Machine T.b_init .nil pass0 (pa_cons (pe_lc (own := [("_", 1), ("pattern", 2)]) (g := gTup _ 2 (gCons (gName 1) (gCons (gName 2) gNil))) (tt := tYes) rfl nd (pi_tup (pv 0)) (blkOk_by (N := ["paths", "_", "pattern"]) (sc := defScope s_machine_of) (by decide +kernel)) (fun _ _ _ _ _ => pg_tup rfl (pgs_cons (pg_name (i := 1) nd rfl (.inl rfl)) (pgs_cons (pg_name (i := 2) nd rfl (.inl rfl)) pgs_nil))) (fun _ _ _ _ _ => pts_nil) (fun _ _ _ _ _ => pe_call (ok_body_of T TB) hr rfl T.g_body_of T.U_body_of.kp T.b_body_of .nil pass0 (pa_cons (pv 2) pa_nil))) pa_nil))), ?_⟩
    obtain ⟨pa, pxs, rfl, ep, op⟩ := od_tup oP
    have lpx : pxs.length = rows.length := by rw [op.len, List.length_map]
    refine ⟨_, rfl, pa, rfl, ⟨_, SqT.of ep⟩, fun D hD => lc_tup (K := K) (a := pa) (xs := pxs) (fun j Hx => Up T H Hx ∧ Hx D = some (.lst ((bodies (rows.take j)).map V.str))) ⟨.same hT (same_upd hD), upd_same⟩ (fun j Hx _ z => SqT.of ((Up.stay hT z.1) _ _ ep fun _ q => nomatch q)) ?_ ?_⟩
    · rintro j x Hx hx ⟨ux, eD⟩
      obtain ⟨d, hd, od⟩ := od_at op hx
      rw [List.getElem?_map] at hd
      obtain ⟨r, hrj, rfl⟩ := Option.map_eq_some_iff.mp hd
      obtain ⟨b, bx, rfl, eb, ob⟩ := od_tup od
      match bx, ob with
      | [wv, qv], .cons o1 (.cons o2 .nil) =>
      cases o1
      cases o2
      refine ⟨b, _, rfl, SqT.of ((Up.stay hT ux) _ _ eb fun _ q => nomatch q), rfl, _, _, rfl, _, _, rfl, rfl, rfl, ?_⟩
      unfold tYes
      dsimp only
      rw [if_pos rfl]
      refine ⟨_, rfl, r.2, rfl, hpat r (List.mem_of_getElem? hrj), ux.1.2, fun H2 t2 => ?_⟩
      have nD : D ≠ T.P_is_pattern := fun z => by
        obtain ⟨_, q, _⟩ := ux.1.2
        rw [← z, eD] at q
        cases q
      have eD2 : H2 D = some (.lst ((bodies (rows.take j)).map V.str)) := (t2.2 D nD).trans eD
      refine ⟨_, eD2, ?_, Up.put (ux.trans (Up.pat ux.1 t2)) hD eD2, ?_⟩
      · unfold bodies
        rw [List.length_map, List.length_map, List.length_take]
        have : 1000 ≤ sizeLine := by decide
        omega
      · unfold bodies
        rw [upd_same, List.take_add_one, hrj, List.map_append, List.map_append]
        rfl
    · rintro Hx ⟨ux, eD⟩
      rw [lpx, List.take_length] at eD
      refine fun aa dx hxa hdx ndx => ?_
      have sm : Same Hx (upd (upd Hx dx (.own aa)) aa (.ins T.C_Machine dx [])) := fun b o e => by
        rw [upd_ne (ne_of_none e hxa), upd_ne (ne_of_none e hdx)]
        exact e
      refine ⟨aa, D, dx, bodies rows, rfl, upd_same, sm _ _ eD, by unfold bodies; rw [List.length_map]; exact l6, fun b hb => ?_, fun le H3 hle hM k3 => ⟨rfl, ?_⟩⟩
      · unfold bodies at hb
        obtain ⟨r, hr', rfl⟩ := List.mem_map.mp hb
        exact body_ok (hpat r hr')
      · have s3 : Same Hx H3 := fun b o e => k3 b o (sm b o e) (ne_of_none e hxa)
        have hlx : Hx le = none := by
          cases e : Hx le with
          | none => rfl
          | some o => rw [sm _ _ e] at hle; cases hle
        exact k aa le H3 (ux.none hxa) (ux.none hlx) (ux.trans (Up.same ux.1 s3)) hM
end
end KP

set_option Elab.async false
set_option maxRecDepth 100000
set_option maxHeartbeats 4000000
set_option linter.all false
/-! Ours: rows of paths that are right. -/
namespace KP
open PySem PySem.Spec PyProof.Rows L2 Gr GxR PM
def wordB (z : Str) : Bool := z == "bar" || z == "let"
def starN (z : Str) : Int := Txt.count z "*"
structure RowsR (rows : List (Str × Str)) : Prop where
  len : rows.length ≤ 6
  word : ∀ r ∈ rows, wordB r.1 = true
  pat : ∀ r ∈ rows, isPat r.2 = true
  star : ∀ j, ((rows.take j).map fun r => starN r.2).sum ≤ 4
def spTup : Sp := fun vs H Q _ => ∃ (a : Addr) (xs : List V) (lo hi : Int), vs = [.ref a, .int lo, .int hi] ∧ H a = some (.tup xs) ∧ lo ≤ (xs.length : Nat) ∧ ((xs.length : Nat) : Int) ≤ hi ∧ Q (.bl true) H
def spPRow {K : PySem.W.Frag} {mg : Str → Option Value} (T : D K mg) : Sp := fun vs H Q _ => ∃ (v : V) (r : Str × Str), vs = [v] ∧ Od H v (rowP r) ∧ wordB r.1 = true ∧ isPat r.2 = true ∧ TT2 T H ∧ ∀ H', Up T H H' → Q (.bl true) H'
def spFaultR {K : PySem.W.Frag} {mg : Str → Option Value} (T : D K mg) : Sp := fun vs H Q _ => ∃ (v : V) (rows : List (Str × Str)), vs = [v] ∧ Od H v (.tuple (rows.map rowP)) ∧ RowsR rows ∧ TT2 T H ∧ ∀ a H', Up T H H' → H' a = some (.tup []) → Q (.ref a) H'
def spPathsR {K : PySem.W.Frag} {mg : Str → Option Value} (T : D K mg) (x : V) : Sp := fun vs H Q _ => ∃ (v : V) (rows : List (Str × Str)), vs = [v] ∧ Od H v (.tuple (rows.map rowP)) ∧ RowsR rows ∧ TT2 T H ∧ ∀ H', Up T H H' → Q x H'
theorem word_in (z : Str) : inV (.str z) [.str "bar", .str "let"] = (z == "bar" || z == "let") := by
  show ((("bar" : Str) == z) || ((("let" : Str) == z) || false)) = _
  rw [Bool.or_false]
  congr 1 <;> exact Bool.eq_iff_iff.mpr (by rw [beq_iff_eq, beq_iff_eq]; exact eq_comm)
section
variable {P : Program} {w : World} {K : PySem.W.Frag} {mg : Str → Option Value} {base : Heap}
theorem sc_istup : FnScope ["value", "low", "high"] ["value", "low", "high"] (defScope s_is_tuple) := ⟨rfl, rfl, rfl, by decide +kernel, rfl, by decide +kernel, by decide +kernel⟩
theorem ok_tup (T : D K mg) : FnOk P w K mg base CX0 1 T.f_is_tuple T.d_is_tuple ["value", "low", "high"] spTup := by
  refine T.U_is_tuple.ok sc_istup (fun vs H Q E h => ?_) (fun cdv A outer s H vs Q E hr h => ?_)
  · obtain ⟨a, xs, lo, hi, rfl, _⟩ := h
    rfl
  · obtain ⟨a, xs, lo, hi, rfl, ea, h1, h2, k⟩ := h
    refine ⟨_, pss_one (ps_ret (pe_and (pe_callB call_isi (by rfl) T.isinstance (by decide +kernel) (pa_cons (pv 0) (pa_cons (pe_bltn (v := .ty "tuple") (by rfl) T.tuple (by decide +kernel) rfl) pa_nil))) (pe_one (pe_chain op_le op_le (pv 1) (pe_callB call_len_seq (by rfl) T.len PySem.boot_len (pa_cons (pv 0) pa_nil)) (pv 2))))), ?_⟩
    refine ⟨_, rfl, _, _, _, _, _, rfl, .ty _, .base (.tup ea), kTup (.tuple []), true, rfl, iteT ?_⟩
    refine ⟨_, rfl, _, rfl, a, _, rfl, .inr (SqT.of ea), _, _, rfl, rfl, _, rfl, ?_⟩
    rw [if_pos (decide_eq_true h1)]
    refine ⟨_, rfl, _, _, rfl, rfl, ?_⟩
    dsimp only
    rw [decide_eq_true h2]
    exact k
theorem sc_prow : FnScope ["value", "word", "pattern"] ["value"] (defScope s_is_path_row) := ⟨rfl, rfl, rfl, by decide +kernel, rfl, by decide +kernel, by decide +kernel⟩
theorem ok_prow (T : D K mg) (TB : Tabs base T) : FnOk P w K mg base CX0 3 T.f_is_path_row T.d_is_path_row ["value"] (spPRow T) := by
  refine T.U_is_path_row.ok sc_prow (fun vs H Q E h => ?_) (fun cdv A outer s H vs Q E hr h => ?_)
  · obtain ⟨v, r, rfl, _⟩ := h
    rfl
  · obtain ⟨v, r, rfl, ov, hw, hpt, hT, k⟩ := h
    have nd := sc_prow.nd
    have mz : 5000 ≤ sizeLine := by decide
    refine ⟨_, pss_cons (ps_if (pt_not (pt_val (pe_call (ok_tup T) (hr.mono (by decide)) rfl T.g_is_tuple T.U_is_tuple.kp T.b_is_tuple .nil pass0 (pa_cons (pv 0) (pa_cons pe_int (pa_cons pe_int pa_nil))))))
        (pss_one (ps_ret pe_bl))
        (pss_nil))
      (pss_cons (ps_asg (pv 0) (pg_tup rfl (pgs_cons (pg_name (i := 1) nd rfl (.inl rfl)) (pgs_cons (pg_name (i := 2) nd rfl (.inl rfl)) pgs_nil))))
      (pss_one (ps_ret (pe_and (pe_callB call_isi (by rfl) T.isinstance (by decide +kernel) (pa_cons (pv 1) (pa_cons (pe_bltn (v := .ty "str") (by rfl) T.str (by decide +kernel) rfl) pa_nil))) (pe_and (pe_cmpR op_in_seq (pv 1) (pe_tup (pa_cons pe_str (pa_cons pe_str pa_nil))) rfl) (pe_one (pe_call (ok_is_pattern T TB) hr rfl T.g_is_pattern T.U_is_pattern.kp T.b_is_pattern .nil pass0 (pa_cons (pv 2) pa_nil)))))))), ?_⟩
    obtain ⟨a, xs, rfl, ea, oa⟩ := od_tup ov
    match xs, oa with
    | [_, _], .cons o1 (.cons o2 .nil) =>
    cases o1
    cases o2
    refine ⟨_, rfl, a, _, 2, 2, rfl, ea, (by show (2 : Int) ≤ 2; decide), (by show (2 : Int) ≤ 2; decide), _, rfl, iteF (next_of ?_)⟩
    refine ⟨_, rfl, a, _, rfl, SqT.of ea, rfl, ?_⟩
    refine ⟨_, _, rfl, _, _, rfl, rfl, _, rfl, _, _, _, _, _, rfl, .ty _, .base (.str _), kStr (.str r.1), _, rfl, ?_⟩
    refine iteT ⟨_, rfl, by show 2 ≤ sizeLine; omega, fun p hp => ⟨p, _, rfl, .inr (SqT.of upd_same), rfl, rfl, _, rfl, ?_⟩⟩
    have u1 := Up.same hT (same_upd (o := HO.tup [V.str "bar", V.str "let"]) hp)
    rw [if_neg Bool.false_ne_true, word_in]
    have hw' : (r.1 == "bar" || r.1 == "let") = true := hw
    rw [hw']
    refine iteT ⟨_, rfl, r.2, rfl, Nat.le_trans (isPat_len hpt).2 (by decide), u1.1.2, fun H2 t2 => ?_⟩
    rw [hpt]
    exact k H2 (u1.trans (Up.pat u1.1 t2))
theorem iteN' {b : Bool} {A B : Prop} (hb : b = false) (h : B) : if b = true then A else B := by rw [hb]; exact h
theorem sc_fault : FnScope ["value", "stars", "index", "row"] ["value"] (defScope s_fault_in_paths) := ⟨rfl, rfl, rfl, by decide +kernel, rfl, by decide +kernel, by decide +kernel⟩
theorem ok_fault (T : D K mg) (TB : Tabs base T) : FnOk P w K mg base CX0 4 T.f_fault_in_paths T.d_fault_in_paths ["value"] (spFaultR T) := by
  refine T.U_fault_in_paths.ok sc_fault (fun vs H Q E h => ?_) (fun cdv A outer s H vs Q E hr h => ?_)
  · obtain ⟨v, rows, rfl, _⟩ := h
    rfl
  · obtain ⟨v, rows, rfl, ov, R, hT, k⟩ := h
    have nd := sc_fault.nd
    have mz : 5000 ≤ sizeLine := by decide
    refine ⟨_, pss_cons (ps_if (pt_not (pt_val (pe_call (ok_tup T) (hr.mono (by decide)) rfl T.g_is_tuple T.U_is_tuple.kp T.b_is_tuple .nil pass0 (pa_cons (pv 0) (pa_cons pe_int (pa_cons (pe_glob (v := .int 6) rfl T.g_MOST_PATHS ⟨_, rfl⟩) pa_nil))))))
        (pss_one (ps_ret (pe_tup (pa_cons pe_non pa_nil))))
        (pss_nil))
      (pss_cons (ps_set (i := 1) nd rfl (.inl rfl) pe_int)
      (pss_cons (ps_for PassesOwn.never rfl (pi_enumT (by rfl) T.enumerate (pa_cons (pv 0) pa_nil)) (pg_tup rfl (pgs_cons (pg_name (i := 2) nd rfl (.inl rfl)) (pgs_cons (pg_name (i := 3) nd rfl (.inl rfl)) pgs_nil)))
        (pss_cons (ps_if (pt_not (pt_val (pe_call (ok_prow T TB) hr rfl T.g_is_path_row T.U_is_path_row.kp T.b_is_path_row .nil pass0 (pa_cons (pv 3) pa_nil))))
          (pss_one (ps_ret (pe_tup (pa_cons (pv 2) pa_nil))))
          (pss_nil))
        (pss_cons (ps_aug (i := 1) nd rfl (.inl rfl) (pe_m1 PySem.F.slot_str_count PySem.F.type_str_count mt_count (pe_ix ix_tup (pv 3) pe_int (fun _ _ => rfl)) pe_str) ip_add)
        (pss_one (ps_if (pt_cmpR op_gt (pv 1) (pe_glob (v := .int 4) rfl T.g_MOST_STARS ⟨_, rfl⟩) (nomark _))
          (pss_one (ps_ret (pe_tup (pa_cons (pv 2) pa_nil))))
          (pss_nil))))))
      (pss_one (ps_ret (pe_tup pa_nil))))), ?_⟩
    obtain ⟨a, xs, rfl, ea, oa⟩ := od_tup ov
    have lx : xs.length = rows.length := by rw [oa.len, List.length_map]
    have l6 := R.len
    refine ⟨_, rfl, a, xs, 0, 6, rfl, ea, by omega, by omega, _, rfl, iteF (next_of ?_)⟩
    dsimp only
    refine ⟨_, rfl, a, xs, rfl, SqT.of ea, for_it (walk_tp (K := K) (a := a) (xs := xs)) (fun j σ H2 => Up T H H2 ∧ ∃ (v2 v3 : Option V), σ = [some (.ref a), some (.int ((rows.take j).map fun r => starN r.2).sum), v2, v3]) ⟨.refl hT, none, none, rfl⟩ (fun i σ H2 _ q => SqT.of (Up.stay hT q.1 _ _ ea fun _ z => nomatch z)) ?_ ?_⟩
    · rintro j x σ H2 H3 hi ⟨u2, v2, v3, rfl⟩ ⟨Tt, y, rfl, hTn, rfl, hy⟩
      obtain ⟨d, hd, oy⟩ := od_at oa hy
      rw [List.getElem?_map] at hd
      obtain ⟨r, hrj, rfl⟩ := Option.map_eq_some_iff.mp hd
      have hrm := List.mem_of_getElem? hrj
      have s3 := same_upd (o := HO.tup [V.int (j : Nat), y]) hTn
      have u3 := u2.trans (.same u2.1 s3)
      refine ⟨_, _, rfl, SqT.of upd_same, rfl, _, _, rfl, _, _, rfl, rfl, ?_⟩
      dsimp only
      have oy3 := (oy.stay (Up.stay hT u2)).same s3
      refine ⟨_, rfl, y, r, rfl, oy3, R.word r hrm, R.pat r hrm, u3.1, fun H4 u4 => ⟨_, rfl, iteF (next_of ?_)⟩⟩
      have oy4 := oy3.stay (Up.stay u3.1 u4)
      obtain ⟨b, ys, rfl, eb, ob⟩ := od_tup oy4
      match ys, ob with
      | [_, _], .cons o1 (.cons o2 .nil) =>
      cases o1
      cases o2
      have hs := R.star (j + 1)
      have et : ((rows.take (j + 1)).map fun r => starN r.2).sum = ((rows.take j).map fun r => starN r.2).sum + starN r.2 := by
        rw [List.take_add_one, hrj, List.map_append, List.sum_append]
        show _ + (starN r.2 + 0) = _
        omega
      refine ⟨_, rfl, ?_⟩
      refine ⟨_, rfl, b, _, 1, .str r.2, rfl, rfl, SqT.of eb, rfl, ⟨r.2, rfl⟩, r.2, "*", rfl, rfl, ?_⟩
      refine ⟨_, _, rfl, rfl, _, rfl, _, _, rfl, rfl, _, rfl, ?_⟩
      refine iteN' (decide_eq_false ?_) ?_
      · show ¬ (4 < ((rows.take j).map fun r => starN r.2).sum + starN r.2)
        rw [← et]
        omega
      · refine ⟨u3.trans u4, some (.int (j : Nat)), some (.ref b), ?_⟩
        rw [et]
        rfl
    · rintro σ H2 ⟨u2, v2, v3, rfl⟩
      exact ⟨by show 0 ≤ sizeLine; omega, fun p hp => k p _ (u2.trans (.same u2.1 (same_upd hp))) upd_same⟩
theorem sc_paths : FnScope ["value"] ["value"] (defScope s_are_paths) := ⟨rfl, rfl, rfl, by decide +kernel, rfl, by decide +kernel, by decide +kernel⟩
theorem ok_paths (T : D K mg) (TB : Tabs base T) : FnOk P w K mg base CX0 5 T.f_are_paths T.d_are_paths ["value"] (spPathsR T (.bl true)) := by
  refine T.U_are_paths.ok sc_paths (fun vs H Q E h => ?_) (fun cdv A outer s H vs Q E hr h => ?_)
  · obtain ⟨v, rows, rfl, _⟩ := h
    rfl
  · obtain ⟨v, rows, rfl, ov, R, hT, k⟩ := h
    refine ⟨_, pss_one (ps_ret (pe_notT (pe_call (ok_fault T TB) hr rfl T.g_fault_in_paths T.U_fault_in_paths.kp T.b_fault_in_paths .nil pass0 (pa_cons (pv 0) pa_nil)))), ?_⟩
    refine ⟨_, rfl, v, rows, rfl, ov, R, hT, fun a H' u e => ⟨false, .inr (.inl ⟨[], SqT.of e, rfl⟩), ?_⟩⟩
    exact k H' u
theorem sc_ckp : FnScope ["given", "fault"] ["given"] (defScope s_check_paths) := ⟨rfl, rfl, rfl, by decide +kernel, rfl, by decide +kernel, by decide +kernel⟩
theorem ok_ckp (T : D K mg) (TB : Tabs base T) : FnOk P w K mg base CX0 5 T.f_check_paths T.d_check_paths ["given"] (spPathsR T .non) := by
  refine T.U_check_paths.ok sc_ckp (fun vs H Q E h => ?_) (fun cdv A outer s H vs Q E hr h => ?_)
  · obtain ⟨v, rows, rfl, _⟩ := h
    rfl
  · obtain ⟨v, rows, rfl, ov, R, hT, k⟩ := h
    have nd := sc_ckp.nd
    refine ⟨_, pss_cons (ps_set (i := 1) nd rfl (.inl rfl) (pe_call (ok_fault T TB) hr rfl T.g_fault_in_paths T.U_fault_in_paths.kp T.b_fault_in_paths .nil pass0 (pa_cons (pv 0) pa_nil)))
      (pss_one (ps_if (pt_truth (pv 1) (by intro _; rfl))
        (pss_one (ps_never))
        (pss_nil))), ?_⟩
    refine ⟨_, rfl, v, rows, rfl, ov, R, hT, fun a H' u e => gn ?_⟩
    dsimp only
    refine ⟨_, rfl, false, .inr (.inl ⟨[], SqT.of e, rfl⟩), iteF ?_⟩
    exact k H' u
end
end KP

set_option Elab.async false
set_option maxRecDepth 100000
set_option maxHeartbeats 4000000
set_option linter.all false
/-! Ours: deciding, is_let_by. -/
namespace KP
open PySem PySem.Spec PyProof.Rows L2 Gr GxR PM
def fitsB (z r : Str) : Bool := F (bl (bodyOf z)) (bl r) (bl (bodyOf z)).length (bl r).length
/-- the row that decides -/
def decI (rows : List (Str × Str)) (r : Str) : Option Nat := (ordL (keyR [.tuple (rows.map rowP)]) rows.length).find? fun i => fitsB (rows.getD i ("", "")).2 r
theorem ord_lt {key : Nat → PyData} {n i : Nat} (h : i ∈ ordL key n) : i < n := by
  unfold ordL at h
  exact List.mem_range.mp ((List.mergeSort_perm _ _).mem_iff.mp h)
theorem and_pow (s k : Nat) : decide (s &&& 2 ^ k ≠ 0) = s.testBit k := by
  cases h : s.testBit k
  · have e : s &&& 2 ^ k = 0 := Nat.eq_of_testBit_eq fun i => by
      rw [Nat.testBit_and, testBit_pow, Nat.zero_testBit]
      by_cases z : k = i
      · subst z
        rw [h]
        rfl
      · rw [decide_eq_false z, Bool.and_false]
    rw [e]
    rfl
  · refine decide_eq_true fun e => ?_
    have t : (s &&& 2 ^ k).testBit k = true := by rw [Nat.testBit_and, testBit_pow, h, decide_eq_true rfl]; rfl
    rw [e, Nat.zero_testBit] at t
    cases t
theorem getD_cast (l : List Nat) (i : Nat) : (l.map fun e : Nat => (e : Int)).getD i 0 = ((l.getD i 0 : Nat) : Int) := by
  rw [List.getD_eq_getElem?_getD, List.getD_eq_getElem?_getD, List.getElem?_map]
  cases l[i]? <;> rfl
theorem find_congr {α : Type} {p q : α → Bool} : ∀ {l : List α}, (∀ a ∈ l, p a = q a) → l.find? p = l.find? q
  | [], _ => rfl
  | a :: l, h => by
    rw [List.find?_cons, List.find?_cons, h a List.mem_cons_self, find_congr fun b hb => h b (List.mem_cons_of_mem _ hb)]
theorem path_zero {r : Str} (h : isPath r = true) : (bl r)[0]? = some 47 ∧ ∀ c ∈ bl r, c ≠ 0 := by
  unfold isPath at h
  rw [Bool.and_eq_true] at h
  refine ⟨by simpa using h.1, fun c hc e => ?_⟩
  have := of_decide_eq_true (List.all_eq_true.mp h.2 c hc)
  rw [e] at this
  exact absurd this (by decide +kernel)
/-- what the machine tells is what decides -/
theorem dec_bit {rows : List (Str × Str)} {r : Str} {y : Nat} (hp : isPath r = true) (hy : PlG (JB (bodies rows)) (stB ((bodies rows).map bl)) (bl r) r.length y) :
    firstBit y (fun i => (ends' 0 ((bodies rows).map bl)).getD i 0) (ordL (keyR [.tuple (rows.map rowP)]) rows.length) = decI rows r := by
  unfold firstBit decI
  refine find_congr fun i hi => ?_
  have hlt := ord_lt hi
  have hb : ((bodies rows).map bl)[i]? = some (bl (bodyOf rows[i].2)) := by
    unfold bodies
    rw [List.getElem?_map, List.getElem?_map, List.getElem?_eq_getElem hlt]
    rfl
  obtain ⟨_, _, a1, a2⟩ := at_pos hb
  have hr0 : ∀ k : Nat, (bl r)[k]? ≠ some 0 := fun k e => (path_zero hp).2 0 (List.mem_of_getElem? e) rfl
  have e1 : (ends' 0 ((bodies rows).map bl)).getD i 0 = 2 ^ ((jn (((bodies rows).map bl).take i)).length + (bl (bodyOf rows[i].2)).length) := by
    rw [List.getD_eq_getElem?_getD, a2]
    rfl
  simp only [e1]
  rw [and_pow, end_bit hy hr0 hb a1]
  unfold fitsB
  rw [List.getD_eq_getElem?_getD, List.getElem?_eq_getElem hlt]
  rfl
structure TabR {K : PySem.W.Frag} {mg : Str → Option Value} (base : Heap) (T : D K mg) : Prop where
  r : TabB base mg T.c_ranked T.P_ranked
  n1 : T.P_ranked ≠ T.P_is_path
  n2 : T.P_ranked ≠ T.P_is_pattern
/-- the three tables stand -/
abbrev T3 {K : PySem.W.Frag} {mg : Str → Option Value} (T : D K mg) (H : Hp) : Prop := TT2 T H ∧ LamX.TabS H T.P_ranked rkQ
/-- all but tables stays, tables stay tables -/
structure U3 {K : PySem.W.Frag} {mg : Str → Option Value} (T : D K mg) (H H' : Hp) : Prop where
  fst : T3 T H'
  snd : Stay H H'
  tab : ∀ p, TabG H p → TabG H' p
section
variable {K : PySem.W.Frag} {mg : Str → Option Value} {T : D K mg} {H H1 H2 : Hp}
theorem U3.trans (a : U3 T H H1) (b : U3 T H1 H2) : U3 T H H2 := ⟨b.1, a.2.trans b.2, fun p h => b.3 p (a.3 p h)⟩
theorem U3.refl (h : T3 T H) : U3 T H H := ⟨h, Stay.refl H, fun _ h => h⟩
theorem U3.same (h : T3 T H) (s : Same H H1) : U3 T H H1 := ⟨⟨h.1.same s, h.2.ext s⟩, .same s, fun _ h => tabG_same h s⟩
theorem U3.up {base : Heap} (TR : TabR base T) (h : T3 T H) (u : Up T H H1) : U3 T H H1 := by
  refine ⟨⟨u.1, ?_⟩, Up.stay h.1 u, fun p hp => ?_⟩
  · obtain ⟨ps, e, t, c⟩ := h.2
    refine ⟨ps, u.2 _ TR.n1 TR.n2 _ e, t, fun pos cv hc => ?_⟩
    obtain ⟨c', e1, e2⟩ := c pos cv hc
    exact ⟨c', e1, Up.stay h.1 u _ _ e2 LamX.codeO_ne⟩
  · by_cases h1 : p = T.P_is_path
    · rw [h1]
      exact u.1.1
    · by_cases h2 : p = T.P_is_pattern
      · rw [h2]
        exact u.1.2
      · obtain ⟨ps, a, b⟩ := hp
        exact ⟨ps, u.2 p h1 h2 _ a, b⟩
theorem U3.ext {base : Heap} (TR : TabR base T) (h : T3 T H) (x : ExtP T.P_ranked H H1) (t : LamX.TabS H1 T.P_ranked rkQ) : U3 T H H1 := by
  have kp : ∀ p, p ≠ T.P_ranked → TabG H p → TabG H1 p := fun p n ⟨ps, a, b⟩ => ⟨ps, x _ _ n a, b⟩
  refine ⟨⟨⟨kp _ (Ne.symm TR.n1) h.1.1, kp _ (Ne.symm TR.n2) h.1.2⟩, t⟩, ExtP.extN h.2 x, fun p hp => ?_⟩
  by_cases e : p = T.P_ranked
  · rw [e]
    obtain ⟨ps, a, b, _⟩ := t
    exact ⟨ps, a, b⟩
  · exact kp p e hp
end
def spDeciding {K : PySem.W.Frag} {mg : Str → Option Value} (T : D K mg) : Sp := fun vs H Q _ => ∃ (pv : V) (rows : List (Str × Str)) (r : Str), vs = [pv, .str r] ∧ Od H pv (.tuple (rows.map rowP)) ∧ RowsR rows ∧ isPath r = true ∧ r.length ≤ 1000 ∧ T3 T H ∧ ∀ H', U3 T H H' → Q (optN (decI rows r)) H'
section
variable {P : Program} {w : World} {K : PySem.W.Frag} {mg : Str → Option Value} {base : Heap}
theorem sc_deciding : FnScope ["paths", "path", "machine"] ["paths", "path"] (defScope s_deciding) := ⟨rfl, rfl, rfl, by decide +kernel, rfl, by decide +kernel, by decide +kernel⟩
theorem ok_deciding (T : D K mg) (TB : Tabs base T) (TR : TabR base T) : FnOk P w K mg base CX0 6 T.f_deciding T.d_deciding ["paths", "path"] (spDeciding T) := by
  refine T.U_deciding.ok sc_deciding (fun vs H Q E h => ?_) (fun cdv A outer s H vs Q E hr h => ?_)
  · obtain ⟨pv, rows, r, rfl, _⟩ := h
    rfl
  · obtain ⟨pv', rows, r, rfl, oP, R, hp, hr1, hT, k⟩ := h
    have nd := sc_deciding.nd
    refine ⟨_, pss_cons (ps_expr (pe_call (ok_ckp T TB) hr rfl T.g_check_paths T.U_check_paths.kp T.b_check_paths .nil pass0 (pa_cons (pv 0) pa_nil)))
      (pss_cons (ps_expr (pe_call (ok_check_path T TB) (hr.mono (by decide)) rfl T.g_check_path T.U_check_path.kp T.b_check_path .nil pass0 (pa_cons (pv 1) pa_nil)))
      (pss_cons (ps_set (i := 2) nd rfl (.inl rfl) (pe_call (ok_machof T TB) hr rfl T.g_machine_of T.U_machine_of.kp T.b_machine_of .nil pass0 (pa_cons (pv 0) pa_nil)))
      (pss_one (ps_ret (pe_call (ok_decided T) (hr.mono (by decide)) rfl T.g_decided T.U_decided.kp T.b_decided .nil pass0 (pa_cons (pe_call (ok_ranked T TR.r) (hr.mono (by decide)) rfl T.g_ranked T.U_ranked.kp T.b_ranked .nil pass0 (pa_cons (pv 0) (pa_cons (pe_fld (pv 2) rfl) pa_nil))) (pa_cons (pe_meth (pv 2) T.cl_Machine T.M_behind (ok_behind T) (hr.mono (by decide)) T.b_behind .nil pass0 (pa_cons (pv 1) pa_nil)) pa_nil))))))), ?_⟩
    refine ⟨_, rfl, pv', rows, rfl, oP, R, hT.1, fun H1 u1 => ?_⟩
    have v1 := U3.up TR hT u1
    refine ⟨_, rfl, r, rfl, hp, v1.1.1.1, fun H2 t2 => ?_⟩
    have v2 := v1.trans (U3.up TR v1.1 (Up.path v1.1.1 t2))
    refine ⟨_, rfl, pv', rows, rfl, oP.stay v2.2, R.len, R.pat, v2.1.1, fun m le H3 hm hle u3 M => gn ?_⟩
    have v3 := v2.trans (U3.up TR v2.1 u3)
    dsimp only
    obtain ⟨dx, ls, md, fs, kvs, hmm, ⟨l2, h2⟩, _, _, _, _, l7⟩ := id M
    have eh : ((ends' 0 ((bodies rows).map bl)).map fun e => V.int (e : Nat)) = ((ends' 0 ((bodies rows).map bl)).map fun e : Nat => (e : Int)).map V.int := by
      rw [List.map_map]
      rfl
    rw [eh] at h2
    have lbs : (bodies rows).length = rows.length := by unfold bodies; rw [List.length_map]
    refine ⟨_, rfl, _, rfl, m, _, dx, fs, _, rfl, hmm, T.cl_Machine, T.n_ends, l2, pv', le, rows, _, rfl, oP.stay v3.2, R.len, fun q hq => Nat.le_trans (isPat_len (R.pat q hq)).2 (by decide), h2, by rw [List.length_map, ends_len, List.length_map, lbs], v3.1.2, fun z xs H4 x4 t4 ez ox => ?_⟩
    have v4 := v3.trans (U3.ext TR v3.1 x4 t4)
    have st4 := ExtP.extN v3.1.2 x4
    have hm4 := st4 _ _ hmm fun _ q => nomatch q
    have bok : ∀ b ∈ bodies rows, BodyOk b := fun b hb => by
      unfold bodies at hb
      obtain ⟨q, hq, rfl⟩ := List.mem_map.mp hb
      exact body_ok (R.pat q hq)
    have beg : Beg (bodies rows) := fun b hb => by
      unfold bodies at hb
      obtain ⟨q, hq, rfl⟩ := List.mem_map.mp hb
      exact body_first (R.pat q hq)
    have l6 := R.len
    refine ⟨_, rfl, m, dx, fs, rfl, hm4, l7 _ (by decide +kernel), _, rfl, m, le, bodies rows, r, rfl, M.stay st4, jn_small (by omega) bok, by omega, beg, (path_zero hp).1, (path_zero hp).2, hr1, fun y H5 s5 hy => ?_⟩
    refine ⟨z, y, xs, ordL (keyR [.tuple (rows.map rowP)]) rows.length, fun i => (ends' 0 ((bodies rows).map bl)).getD i 0, fun i => (rows.getD i ("", "")).1 == barS, rfl, s5 _ _ ez, ?_, ?_⟩
    · have e : ((ordL (keyR [.tuple (rows.map rowP)]) rows.length).map fun i => PyData.tuple [.int (((ends' 0 ((bodies rows).map bl)).map fun e : Nat => (e : Int)).getD i 0), .int (i : Nat), .bool ((rows.getD i ("", "")).1 == barS)]) = (ordL (keyR [.tuple (rows.map rowP)]) rows.length).map fun i => PyData.tuple [.int (((ends' 0 ((bodies rows).map bl)).getD i 0 : Nat) : Int), .int (i : Nat), .bool ((rows.getD i ("", "")).1 == barS)] :=
        List.map_congr_left fun i _ => by rw [getD_cast]
      rw [← e]
      exact ox.same s5
    · rw [dec_bit hp hy]
      exact k H5 (v4.trans (U3.same v4.1 s5))
end
end KP

set_option Elab.async false
set_option maxRecDepth 100000
set_option maxHeartbeats 4000000
set_option linter.all false
/-! Ours: is_let_by. -/
namespace KP
open PySem PySem.Spec PyProof.Rows L2 Gr GxR PM
def letB (rows : List (Str × Str)) (r : Str) : Bool := match decI rows r with
  | none => true
  | some i => (rows.getD i ("", "")).1 == "let"
def spLetBy {K : PySem.W.Frag} {mg : Str → Option Value} (T : D K mg) : Sp := fun vs H Q _ => ∃ (pv : V) (rows : List (Str × Str)) (r : Str), vs = [pv, .str r] ∧ Od H pv (.tuple (rows.map rowP)) ∧ RowsR rows ∧ isPath r = true ∧ r.length ≤ 1000 ∧ T3 T H ∧ ∀ H', U3 T H H' → Q (.bl (letB rows r)) H'
theorem str_eqB (a b : Str) : decide (V.str a = V.str b) = (a == b) := by
  rw [Bool.eq_iff_iff, decide_eq_true_eq, beq_iff_eq]
  exact ⟨fun h => by injection h, fun h => congrArg V.str h⟩
section
variable {P : Program} {w : World} {K : PySem.W.Frag} {mg : Str → Option Value} {base : Heap}
theorem sc_letby : FnScope ["paths", "path", "index"] ["paths", "path"] (defScope s_is_let_by) := ⟨rfl, rfl, rfl, by decide +kernel, rfl, by decide +kernel, by decide +kernel⟩
theorem ok_letby (T : D K mg) (TB : Tabs base T) (TR : TabR base T) : FnOk P w K mg base CX0 7 T.f_is_let_by T.d_is_let_by ["paths", "path"] (spLetBy T) := by
  refine T.U_is_let_by.ok sc_letby (fun vs H Q E h => ?_) (fun cdv A outer s H vs Q E hr h => ?_)
  · obtain ⟨pv, rows, r, rfl, _⟩ := h
    rfl
  · obtain ⟨pv', rows, r, rfl, oP, R, hp, hr1, hT, k⟩ := h
    have nd := sc_letby.nd
    refine ⟨_, pss_cons (ps_set (i := 2) nd rfl (.inl rfl) (pe_call (ok_deciding T TB TR) hr rfl T.g_deciding T.U_deciding.kp T.b_deciding .nil pass0 (pa_cons (pv 0) (pa_cons (pv 1) pa_nil))))
      (pss_one (ps_ret (pe_or (pe_cmpR op_isN (pv 2) pe_non (nomark _)) (pe_one (pe_cmpR op_eq (pe_ix ix_tup (pe_ix ix_tup (pv 0) (pv 2) (fun _ _ => rfl)) pe_int (fun _ _ => rfl)) pe_str (nomark _)))))), ?_⟩
    refine ⟨_, rfl, _, rfl, pv', rows, r, rfl, oP, R, hp, hr1, hT, fun H1 u1 => gn ?_⟩
    dsimp only
    have q := k H1 u1
    unfold letB at q
    obtain ⟨pa, pxs, rfl, ep, op⟩ := od_tup (oP.stay u1.2)
    cases hd : decI rows r with
    | none =>
      rw [hd] at q
      refine ⟨_, rfl, rfl, true, rfl, iteT ?_⟩
      exact q
    | some i =>
      rw [hd] at q
      have hi : i < rows.length := by
        unfold decI at hd
        exact ord_lt (List.mem_of_find?_eq_some hd)
      refine ⟨_, rfl, rfl, false, rfl, iteF ?_⟩
      obtain ⟨xr, hxr, oxr⟩ := OdAll.get op (i := i) (d := rowP rows[i]) (by rw [List.getElem?_map, List.getElem?_eq_getElem hi]; rfl)
      obtain ⟨b, bx, rfl, eb, ob⟩ := od_tup oxr
      match bx, ob with
      | [_, _], .cons o1 (.cons o2 .nil) =>
      cases o1
      refine ⟨_, rfl, _, rfl, pa, _, (i : Nat), _, rfl, rfl, SqT.of ep, atI_nat hxr, b, _, 0, _, rfl, rfl, SqT.of eb, rfl, rfl, ?_⟩
      rw [str_eqB]
      dsimp only at q
      rw [List.getD_eq_getElem?_getD, List.getElem?_eq_getElem hi] at q
      exact q
end
end KP

set_option Elab.async false
set_option maxRecDepth 100000
set_option maxHeartbeats 4000000
set_option linter.all false
/-! Ours: the law's helpers: signs, an alphabet, bodies, the table of truths. -/
namespace KP
open PySem PySem.Spec PyProof.Rows L2 Gr GxR PM
def OneS (v : V) : Prop := ∃ c ∈ SG, v = .str ⟨#[c]⟩
def spSigns : Sp := fun vs H Q _ => vs = [] ∧ Q (.str SGs) H
def spAlph : Sp := fun vs H Q _ => ∃ p : Addr, vs = [.ref p] ∧ Well H p ∧ ∀ (q : Addr) (xs : List V) (H' : Hp), H q = none → But H H' p → Well H' p → H' q = some (.lst xs) → 0 < xs.length → xs.length ≤ 9 → (∀ v ∈ xs, OneS v) → Q (.ref q) H'
def spLBody : Sp := fun vs H Q _ => ∃ z, vs = [.str z] ∧ isPat z = true ∧ Q (.str (bodyOf z)) H
def spFits : Sp := fun vs H Q _ => ∃ b r : Str, vs = [.str b, .str r] ∧ b.length ≤ 1000 ∧ r.length ≤ 1000 ∧ ∀ H', Same H H' → Q (.bl (met (bl b) (bl r))) H'
def spLMeets : Sp := fun vs H Q _ => ∃ z r : Str, vs = [.str z, .str r] ∧ isPat z = true ∧ r.length ≤ 1000 ∧ ∀ H', Same H H' → Q (.bl (met (bl (bodyOf z)) (bl r))) H'
theorem SGs_len : SGs.length ≤ 1000 := by decide +kernel
theorem SGs_pos : 0 < SGs.length := by decide +kernel
theorem slash_in : 47 ∈ SG := by decide +kernel
theorem But.mk' {H H' : Hp} {p : Addr} (s : Same H H') : But H H' p := fun b o e _ => s b o e
theorem last_item (z : Str) (h : 1 ≤ z.length) : ∃ c, atI z.cps.toList (-1) = some c ∧ z.cps.toList.getLast? = some c := by
  have hn : z.cps.toList ≠ [] := fun e => by
    rw [tx_len, e] at h
    exact absurd h (by decide)
  refine ⟨z.cps.toList.getLast hn, ?_, List.getLast?_eq_some_getLast hn⟩
  have := atI_last z.cps.toList.dropLast (z.cps.toList.getLast hn)
  rw [List.dropLast_concat_getLast hn] at this
  exact this
section
variable {P : Program} {w : World} {K : PySem.W.Frag} {mg : Str → Option Value} {base : Heap}
theorem sc_l_signs : FnScope [] [] (defScope s_l_signs) := ⟨rfl, rfl, rfl, by decide +kernel, rfl, by decide +kernel, by decide +kernel⟩
theorem ok_l_signs (T : D K mg) : FnOk P w K mg base CX0 1 T.f_l_signs T.d_l_signs [] spSigns := by
  refine T.U_l_signs.ok sc_l_signs (fun vs H Q E h => ?_) (fun cdv A outer s H vs Q E hr h => ?_)
  · rw [h.1]
    rfl
  · obtain ⟨rfl, q⟩ := h
    exact ⟨_, pss_one (ps_ret pe_str), q⟩
theorem sc_alph : FnScope ["_law_well_here", "_law_turn"] ["_law_well_here"] (defScope s_l_alphabet) := ⟨rfl, rfl, rfl, by decide +kernel, rfl, by decide +kernel, by decide +kernel⟩
theorem ok_l_alphabet (T : D K mg) : FnOk P w K mg base CX0 3 T.f_l_alphabet T.d_l_alphabet ["_law_well_here"] spAlph := by
  refine T.U_l_alphabet.ok sc_alph (fun vs H Q E h => ?_) (fun cdv A outer s H vs Q E hr h => ?_)
  · obtain ⟨p, rfl, _⟩ := h
    rfl
  · obtain ⟨p, rfl, hp, k⟩ := h
    have nd := sc_alph.nd
    refine ⟨_, pss_one (ps_ret (pe_op op_cat (pe_lc (own := [("_law_turn", 1)]) (g := gName 1) (tt := tYes) rfl nd (pi_range1 rfl T.range (pa_cons (pe_op op_add pe_int (pe_call (ok_l_pick T) (hr.mono (by decide)) rfl T.g_l_pick T.U_l_pick.kp T.b_l_pick .nil pass0 (pa_cons (pv 0) (pa_cons pe_int pa_nil)))) pa_nil)) (blkOk_by (N := ["_law_well_here", "_law_turn"]) (sc := defScope s_l_alphabet) (by decide +kernel)) (fun _ _ _ _ _ => pg_name (i := 1) nd rfl (.inl rfl)) (fun _ _ _ _ _ => pts_nil) (fun _ _ _ _ _ => pe_call (ok_l_oneS T) hr rfl T.g_l_one T.U_l_one.kp T.b_l_one .nil pass0 (pa_cons (pv 0) (pa_cons (pe_call0 (ok_l_signs T) (hr.mono (by decide)) (by rfl) T.g_l_signs T.U_l_signs.kp T.b_l_signs .nil pass0) pa_nil)))) (pe_op op_rep (pe_lst (pa_cons pe_str pa_nil)) (pe_call (ok_l_pick T) (hr.mono (by decide)) rfl T.g_l_pick T.U_l_pick.kp T.b_l_pick .nil pass0 (pa_cons (pv 0) (pa_cons pe_int pa_nil)))))), ?_⟩
    have npD : ∀ {H1 : Hp} {D : Addr}, Well H1 p → H1 D = none → D ≠ p := fun {H1 D} ⟨_, _, _, e⟩ hD z => by
      rw [z, e] at hD
      cases hD
    refine ⟨_, rfl, p, 2, rfl, hp, by decide, by decide, fun n H1 n0 n1 w1 b1 => ⟨_, _, rfl, rfl, ?_⟩⟩
    refine ⟨_, rfl, by omega, by omega, fun D hD => lc_range (lo := 0) (n := _) (fun i H2 => But H1 H2 p ∧ Well H2 p ∧ ∃ xs : List V, H2 D = some (.lst xs) ∧ xs.length = i ∧ ∀ v ∈ xs, OneS v) ⟨But.mk' (same_upd hD), ?_, [], upd_same, rfl, fun v hv => nomatch hv⟩ ?_ ?_⟩
    · obtain ⟨a, b, c, e⟩ := w1
      exact ⟨a, b, c, (upd_ne (Ne.symm (npD ⟨a, b, c, e⟩ hD))).trans e⟩
    · rintro i H2 hi ⟨b2, w2, xs, hDs, hl, hx⟩
      have hi3 : i < 3 := by omega
      refine ⟨rfl, ?_⟩
      unfold tYes
      refine iteT ⟨_, rfl, ?_⟩
      refine ⟨rfl, p, SGs, rfl, w2, SGs_pos, SGs_len, fun c H3 hc w3 b3 => ⟨xs, b3 _ _ hDs (npD w1 hD), ?_, ?_, ?_, xs ++ [.str ⟨#[c]⟩], upd_same, ?_, ?_⟩⟩
      · exact small1000 (by omega)
      · intro x o e n
        have q := b3 _ _ (b2 _ _ e n) n
        rw [upd_ne (ne_of_none e hD)]
        exact q
      · obtain ⟨a, b, c', e⟩ := w3
        exact ⟨a, b, c', (upd_ne (Ne.symm (npD w1 hD))).trans e⟩
      · rw [List.length_append, hl]
        rfl
      · intro v hv
        rcases List.mem_append.mp hv with q | q
        · exact hx v q
        · rw [List.mem_singleton.mp q]
          exact ⟨c, hc, rfl⟩
    · rintro H2 ⟨b2, w2, xs, hDs, hl, hx⟩
      refine ⟨by show 1 ≤ sizeLine; decide, fun l hl2 => ?_⟩
      have s3 : Same H2 (upd H2 l (.lst [.str "/"])) := same_upd hl2
      have w3 : Well (upd H2 l (.lst [.str "/"])) p := let ⟨a, b, c, e⟩ := w2; ⟨a, b, c, s3 _ _ e⟩
      have nlp : l ≠ p := npD w2 hl2
      refine ⟨_, rfl, p, 2, rfl, w3, by decide, by decide, fun m H4 m0 m1 w4 b4 => ?_⟩
      refine ⟨l, m, _, rfl, rfl, b4 _ _ upd_same nlp, by omega, by omega, ?_, fun r hr2 => ?_⟩
      · show 1 * m.toNat ≤ sizeLine
        have : 2 ≤ sizeLine := by decide
        omega
      · have hD4 : H4 D = some (.lst xs) := b4 _ _ (s3 _ _ hDs) (npD w1 hD)
        have s5 : Same H4 (upd H4 r (.lst ((List.replicate m.toNat [V.str "/"]).flatten))) := same_upd hr2
        have lm : m.toNat ≤ 1 := by omega
        have lrep : ((List.replicate m.toNat [V.str "/"]).flatten).length = m.toNat := by simp
        have ln2 : (2 + n).toNat ≤ 3 := by omega
        have ln3 : 0 < (2 + n).toNat := by omega
        have hl' : xs.length = (2 + n).toNat := hl
        refine ⟨D, r, xs, _, rfl, rfl, s5 _ _ hD4, upd_same, ?_, fun q hq => ?_⟩
        · have : 100 ≤ sizeLine := by decide
          rw [lrep]
          omega
        · refine k q _ _ ?_ ?_ ?_ upd_same ?_ ?_ ?_
          · cases e : H q with
            | none => rfl
            | some o =>
              by_cases z : q = p
              · obtain ⟨a, b, c, ew⟩ := w4
                rw [z, s5 _ _ ew] at hq
                cases hq
              · rw [s5 _ _ (b4 _ _ (s3 _ _ (b2 _ _ (b1 _ _ e z) z)) z)] at hq
                cases hq
          · intro x o e n
            exact same_upd hq _ _ (s5 _ _ (b4 _ _ (s3 _ _ (b2 _ _ (b1 _ _ e n) n)) n))
          · obtain ⟨a, b, c, e⟩ := w4
            exact ⟨a, b, c, same_upd hq _ _ (s5 _ _ e)⟩
          · rw [List.length_append]
            omega
          · rw [List.length_append, lrep]
            omega
          · intro v hv
            rcases List.mem_append.mp hv with q1 | q1
            · exact hx v q1
            · obtain ⟨l', hl', e'⟩ := List.mem_flatten.mp q1
              rw [List.eq_of_mem_replicate hl'] at e'
              rw [List.mem_singleton.mp e', lit_slash]
              exact ⟨47, slash_in, rfl⟩
theorem sc_lbody : FnScope ["_law_shape"] ["_law_shape"] (defScope s_l_body) := ⟨rfl, rfl, rfl, by decide +kernel, rfl, by decide +kernel, by decide +kernel⟩
theorem ok_l_body (T : D K mg) : FnOk P w K mg base CX0 1 T.f_l_body T.d_l_body ["_law_shape"] spLBody := by
  refine T.U_l_body.ok sc_lbody (fun vs H Q E h => ?_) (fun cdv A outer s H vs Q E hr h => ?_)
  · obtain ⟨z, rfl, _⟩ := h
    rfl
  · obtain ⟨z, rfl, hz, k⟩ := h
    have lz := isPat_len hz
    have l13 : 13 ≤ sizeLine := by decide
    refine ⟨_, pss_one (ps_ret (pe_ifExp (PW.pt (pw_and (pt_cmpR op_gt (pe_callB call_len_str (by rfl) T.len PySem.boot_len (pa_cons (pv 0) pa_nil)) pe_int (nomark _)) (pw_and1 (pt_cmpR op_eq (pe_ix ix_str (pv 0) (pe_un un_neg pe_int) (fun _ _ => rfl)) pe_str (nomark _))))) (pe_slice sl_str (pv 0) po_none (po_some (pe_un un_neg pe_int))) (pe_op op_add_str (pv 0) pe_str))), ?_⟩
    obtain ⟨c, hc1, hc2⟩ := last_item z lz.1
    unfold bodyOf at k
    have app : (if (z.cps.toList.getLast? == some 36) = true then cutS z none (some (-1)) else z ++ ("*" : Str)) = z ++ ("*" : Str) → Q (.str (z ++ ("*" : Str))) H := fun e => by rw [e] at k; exact k
    refine ⟨_, rfl, _, rfl, by omega, _, _, rfl, rfl, _, rfl, ?_⟩
    refine ite2 (fun h1 => ?_) (fun h1 => ?_)
    · refine ⟨_, rfl, _, rfl, z, _, c, rfl, rfl, by omega, hc1, rfl, _, rfl, ?_⟩
      by_cases h36 : c = 36
      · have e : (z.cps.toList.getLast? == some 36) = true := by rw [hc2, h36]; rfl
        rw [if_pos e] at k
        refine iteP (decide_eq_true (by rw [h36, lit_dollar])) ⟨_, rfl, _, rfl, _, rfl, z, rfl, by omega, k⟩
      · have e : ¬ (z.cps.toList.getLast? == some 36) = true := by rw [hc2]; simpa using h36
        rw [if_neg e] at k
        refine iteN (fun h => h36 ?_) ⟨_, rfl, _, _, rfl, rfl, ?_, k⟩
        · have := of_decide_eq_true h
          rw [lit_dollar] at this
          exact one_inj.mp (V.str.inj this)
        · show z.length + 1 ≤ sizeLine
          omega
    · -- one sign alone is no dollar
      have h1' : ¬ (1 : Int) < (z.length : Nat) := fun q => h1 (decide_eq_true q)
      have l1 : z.length = 1 := by omega
      have e : ¬ (z.cps.toList.getLast? == some 36) = true := by
        intro q
        have := (isPat_inner hz).1
        unfold innerOf at this
        rw [if_pos q] at this
        have l2 : z.cps.toList.dropLast.length = 0 := by
          rw [List.length_dropLast]
          have : z.cps.toList.length = z.length := rfl
          omega
        rw [List.eq_nil_of_length_eq_zero l2] at this
        cases this
      rw [if_neg e] at k
      refine ⟨_, rfl, _, _, rfl, rfl, ?_, k⟩
      show z.length + 1 ≤ sizeLine
      omega
/-- a row of the table, as a list -/
def rowL (b r : List Nat) (i n : Nat) : List V := (List.range n).map fun k => V.bl (F b r i k)
theorem rowL_at {b r : List Nat} {i n k : Nat} (h : k < n) : atI (rowL b r i n) (k : Int) = some (.bl (F b r i k)) :=
  atI_nat (by unfold rowL; rw [List.getElem?_map, List.getElem?_range h]; rfl)
theorem rowL_len (b r : List Nat) (i n : Nat) : (rowL b r i n).length = n := by unfold rowL; rw [List.length_map, List.length_range]
theorem rowL_succ (b r : List Nat) (i n : Nat) : rowL b r i (n + 1) = rowL b r i n ++ [V.bl (F b r i n)] := by unfold rowL; rw [List.range_succ, List.map_append]; rfl
theorem rowL_zero (b r : List Nat) : ∀ n, [V.bl true] ++ (List.replicate n [V.bl false]).flatten = rowL b r 0 (n + 1)
  | 0 => rfl
  | n + 1 => by
    rw [rowL_succ, ← rowL_zero b r n, List.replicate_succ', List.flatten_append]
    simp [F]
theorem sc_fits : FnScope ["_law_body_here", "_law_route", "_law_row", "_law_sign", "_law_new", "_law_at", "_law_other"] ["_law_body_here", "_law_route"] (defScope s_l_fits) := ⟨rfl, rfl, rfl, by decide +kernel, rfl, by decide +kernel, by decide +kernel⟩
theorem ok_l_fits (T : D K mg) : FnOk P w K mg base CX0 1 T.f_l_fits T.d_l_fits ["_law_body_here", "_law_route"] spFits := by
  refine T.U_l_fits.ok sc_fits (fun vs H Q E h => ?_) (fun cdv A outer s H vs Q E hr h => ?_)
  · obtain ⟨b, r, rfl, _⟩ := h
    rfl
  · obtain ⟨b, r, rfl, hb, hrl, k⟩ := h
    have nd := sc_fits.nd
    have l1000 : 5000 ≤ sizeLine := by decide
    refine ⟨_, pss_cons (ps_set (i := 2) nd rfl (.inl rfl) (pe_op op_cat (pe_lst (pa_cons pe_bl pa_nil)) (pe_op op_rep (pe_lst (pa_cons pe_bl pa_nil)) (pe_callB call_len_str (by rfl) T.len PySem.boot_len (pa_cons (pv 1) pa_nil)))))
      (pss_cons (ps_for PassesOwn.never rfl (pi_str (pv 0)) (pg_name (i := 3) nd rfl (.inl rfl))
        (pss_cons (ps_set (i := 4) nd rfl (.inl rfl) (pe_lst (pa_cons (pe_and (pe_ix ix_list (pv 2) pe_int (fun _ _ => rfl)) (pe_one (pe_cmpR op_eq (pv 3) pe_str (nomark _)))) pa_nil)))
        (pss_cons (ps_for PassesOwn.never rfl (pi_enumS (by rfl) T.enumerate (pa_cons (pv 1) pa_nil)) (pg_tup rfl (pgs_cons (pg_name (i := 5) nd rfl (.inl rfl)) (pgs_cons (pg_name (i := 6) nd rfl (.inl rfl)) pgs_nil)))
          (pss_one (ps_expr (pe_bm PySem.F.plainAttrs_list PySem.F.slot_list_append PySem.F.type_list_append mt_append (pv 4) (pa_cons (pe_ifExp (pt_cmpR op_eq (pv 3) pe_str (nomark _)) (pe_or (pe_ix ix_list (pv 2) (pe_op op_add (pv 5) pe_int) (fun _ _ => rfl)) (pe_one (pe_ix ix_list (pv 4) (pv 5) (fun _ _ => rfl)))) (pe_and (pe_ix ix_list (pv 2) (pv 5) (fun _ _ => rfl)) (pe_one (pe_cmpR op_eq (pv 3) (pv 6) (nomark _))))) pa_nil)))))
        (pss_one (ps_set (i := 2) nd rfl (.inl rfl) (pv 4))))))
      (pss_one (ps_ret (pe_ix ix_list (pv 2) (pe_callB call_len_str (by rfl) T.len PySem.boot_len (pa_cons (pv 1) pa_nil)) (fun _ _ => rfl))))), ?_⟩
    -- the first row
    refine ⟨by show 1 ≤ sizeLine; decide, fun p hp => ⟨by show 1 ≤ sizeLine; decide, fun q hq => ?_⟩⟩
    have s1 : Same H (upd H p (.lst [.bl true])) := same_upd hp
    have s2 : Same (upd H p (.lst [.bl true])) (upd (upd H p (.lst [.bl true])) q (.lst [.bl false])) := same_upd hq
    refine ⟨_, rfl, _, rfl, by omega, q, _, _, rfl, rfl, upd_same, by omega, by omega, ?_, fun u hu2 => ?_⟩
    · show 1 * (r.length : Int).toNat ≤ sizeLine
      omega
    have s3 := same_upd (o := HO.lst ((List.replicate ((r.length : Nat) : Int).toNat [V.bl false]).flatten)) hu2
    refine ⟨p, u, _, _, rfl, rfl, s3 _ _ (s2 _ _ upd_same), upd_same, ?_, fun v hv => ?_⟩
    · show 1 + ((List.replicate ((r.length : Nat) : Int).toNat [V.bl false]).flatten).length ≤ sizeLine
      simp
      omega
    have e0 : [V.bl true] ++ (List.replicate ((r.length : Nat) : Int).toNat [V.bl false]).flatten = rowL (bl b) (bl r) 0 (r.length + 1) := rowL_zero (bl b) (bl r) r.length
    rw [e0]
    have s4 := same_upd (o := HO.lst (rowL (bl b) (bl r) 0 (r.length + 1))) hv
    have s04 := s1.trans (s2.trans (s3.trans s4))
    -- row by row
    refine ⟨_, rfl, b, rfl, for_it (walk_str (z := b)) (fun i σ H2 => Same H H2 ∧ ∃ (a : Addr) (v3 v4 v5 v6 : Option V), σ = [some (.str b), some (.str r), some (.ref a), v3, v4, v5, v6] ∧ H2 a = some (.lst (rowL (bl b) (bl r) i (r.length + 1)))) ⟨s04, v, none, none, none, none, rfl, upd_same⟩ (fun _ _ _ _ _ => trivial) ?_ ?_⟩
    · rintro i x σ H2 H3 hi ⟨sH, a, v3, v4, v5, v6, rfl, ha⟩ ⟨rfl, c, hc, rfl⟩
      have hcl : (bl b)[i]? = some c := (Array.getElem?_toList (xs := b.cps) (i := i)).trans hc
      have est : isSt (bl b) i = decide (c = 42) := by
        unfold isSt
        rw [hcl]
        by_cases h : c = 42
        · rw [h]; rfl
        · rw [decide_eq_false h]; simpa using h
      have edec : decide (V.str ⟨#[c]⟩ = V.str "*") = isSt (bl b) i := by
        rw [est]
        apply decide_eq_decide.mpr
        rw [lit_star]
        exact ⟨fun e => one_inj.mp (V.str.inj e), fun e => by rw [e]⟩
      refine and_pure (F (bl b) (bl r) i 0) (isSt (bl b) i) (fun Q' q' => ⟨_, rfl, a, _, 0, _, rfl, rfl, SqL.of ha, rowL_at (k := 0) (Nat.succ_pos _), q'⟩) (fun _ Q' q' => ⟨_, rfl, rfl, by rw [edec]; exact q'⟩) ?_
      rw [← F_succ_zero]
      refine ⟨by show 1 ≤ sizeLine; decide, fun l hl => ?_⟩
      have sl := same_upd (o := HO.lst [V.bl (F (bl b) (bl r) (i + 1) 0)]) hl
      refine ⟨_, rfl, r, rfl, for_it (walk_tx (x := r) (c := 0)) (fun j σ H4 => Same H3 H4 ∧ H4 l = some (.lst (rowL (bl b) (bl r) (i + 1) (j + 1))) ∧ ∃ w5 w6 : Option V, σ = [some (.str b), some (.str r), some (.ref a), some (.str ⟨#[c]⟩), some (.ref l), w5, w6]) ⟨sl, upd_same, v5, v6, rfl⟩ (fun _ _ _ _ _ => trivial) ?_ ?_⟩
      · rintro j x σ H4 H5 hj ⟨s4, hl4, w5, w6, rfl⟩ ⟨p, d, rfl, hp4, rfl, hd⟩
        have hdl : (bl r)[j]? = some d := (Array.getElem?_toList (xs := r.cps) (i := j)).trans hd
        have s5 := same_upd (o := HO.tup [V.int (0 + (j : Nat)), V.str ⟨#[d]⟩]) hp4
        have ha5 := s5 _ _ (s4 _ _ ha)
        have hl5 := s5 _ _ hl4
        have hjr : j < r.length := hj
        have nla : l ≠ a := fun e => by rw [e, ha] at hl; cases hl
        refine ⟨p, _, rfl, .inl (.inl upd_same), rfl, _, _, rfl, _, _, rfl, rfl, ?_⟩
        have e1 : (0 + ((j : Nat) : Int) + 1) = ((j + 1 : Nat) : Int) := by omega
        have e2 : (0 + ((j : Nat) : Int)) = ((j : Nat) : Int) := by omega
        refine ⟨_, rfl, .inl ⟨rfl, _, SqL.of hl5⟩, ?_⟩
        have fin : ∀ v : V, v = V.bl (F (bl b) (bl r) (i + 1) (j + 1)) → ∃ (l' : Addr) (xs' : List V) (y' : V), V.ref l = .ref l' ∧ [v] = [y'] ∧ upd H4 p (.tup [V.int (0 + (j : Nat)), V.str ⟨#[d]⟩]) l' = some (.lst xs') ∧ xs'.length < sizeLine ∧
            (Same H3 (upd (upd H4 p (.tup [V.int (0 + (j : Nat)), V.str ⟨#[d]⟩])) l' (.lst (xs' ++ [y']))) ∧ (upd (upd H4 p (.tup [V.int (0 + (j : Nat)), V.str ⟨#[d]⟩])) l' (.lst (xs' ++ [y']))) l = some (.lst (rowL (bl b) (bl r) (i + 1) (j + 1 + 1))) ∧
              ∃ w5 w6 : Option V, ([some (.str b), some (.str r), some (.ref a), some (.str ⟨#[c]⟩), some (.ref l), some (.int (0 + (j : Nat))), some (.str ⟨#[d]⟩)] : L2.St) = [some (.str b), some (.str r), some (.ref a), some (.str ⟨#[c]⟩), some (.ref l), w5, w6]) := by
          rintro v rfl
          refine ⟨l, _, _, rfl, rfl, hl5, ?_, fun x o e => ?_, ?_, _, _, rfl⟩
          · rw [rowL_len]
            omega
          · rw [upd_ne (ne_of_none e hl)]
            exact s5 _ _ (s4 _ _ e)
          · rw [upd_same, rowL_succ (bl b) (bl r) (i + 1) (j + 1)]
        refine ⟨_, rfl, rfl, _, rfl, ?_⟩
        dsimp only
        rw [edec]
        cases hst : isSt (bl b) i with
        | true =>
          refine iteT (or_pure (F (bl b) (bl r) i (j + 1)) (F (bl b) (bl r) (i + 1) j) (fun Q' q' => ⟨_, rfl, _, rfl, _, _, rfl, rfl, a, _, _, _, rfl, rfl, SqL.of ha5, (by rw [e1]; exact rowL_at (by omega)), q'⟩) (fun _ Q' q' => ⟨_, rfl, _, rfl, l, _, _, _, rfl, rfl, SqL.of hl5, (by rw [e2]; exact rowL_at (by omega)), q'⟩) ?_)
          exact fin _ (by rw [F_succ, hst]; rfl)
        | false =>
          refine iteF (and_pure (F (bl b) (bl r) i j) ((bl b)[i]? == (bl r)[j]?) (fun Q' q' => ⟨_, rfl, _, rfl, a, _, _, _, rfl, rfl, SqL.of ha5, (by rw [e2]; exact rowL_at (by omega)), q'⟩) (fun _ Q' q' => ⟨_, rfl, _, rfl, rfl, ?_⟩) ?_)
          · have : decide (V.str ⟨#[c]⟩ = V.str ⟨#[d]⟩) = ((bl b)[i]? == (bl r)[j]?) := by
              rw [hcl, hdl, Bool.eq_iff_iff, decide_eq_true_eq, beq_iff_eq]
              exact ⟨fun e => by rw [one_inj.mp (V.str.inj e)], fun e => by rw [Option.some.inj e]⟩
            rw [this]
            exact q'
          · exact fin _ (by rw [F_succ, hst]; rfl)
      · rintro σ H4 ⟨s4, hl4, w5, w6, rfl⟩
        exact ⟨_, rfl, sH.trans s4, l, _, _, _, _, rfl, hl4⟩
    · rintro σ H2 ⟨sH, a, v3, v4, v5, v6, rfl, ha⟩
      have mz : r.length ≤ sizeLine := by omega
      refine ⟨_, rfl, _, rfl, _, rfl, mz, a, _, _, _, rfl, rfl, SqL.of ha, rowL_at (Nat.lt_succ_self _), ?_⟩
      exact k H2 sH
theorem sc_lmeets : FnScope ["_law_shape", "_law_route"] ["_law_shape", "_law_route"] (defScope s_l_meets) := ⟨rfl, rfl, rfl, by decide +kernel, rfl, by decide +kernel, by decide +kernel⟩
theorem ok_l_meets (T : D K mg) : FnOk P w K mg base CX0 2 T.f_l_meets T.d_l_meets ["_law_shape", "_law_route"] spLMeets := by
  refine T.U_l_meets.ok sc_lmeets (fun vs H Q E h => ?_) (fun cdv A outer s H vs Q E hr h => ?_)
  · obtain ⟨z, r, rfl, _⟩ := h
    rfl
  · obtain ⟨z, r, rfl, hz, hrl, k⟩ := h
    refine ⟨_, pss_one (ps_ret (pe_call (ok_l_fits T) hr rfl T.g_l_fits T.U_l_fits.kp T.b_l_fits .nil pass0 (pa_cons (pe_call (ok_l_body T) hr rfl T.g_l_body T.U_l_body.kp T.b_l_body .nil pass0 (pa_cons (pv 0) pa_nil)) (pa_cons (pv 1) pa_nil)))), ?_⟩
    exact ⟨_, rfl, z, rfl, hz, _, rfl, _, r, rfl, Nat.le_trans (body_len hz) (by decide), hrl, k⟩
end
end KP

set_option Elab.async false
set_option maxRecDepth 100000
set_option maxHeartbeats 4000000
set_option linter.all false
/-! Ours: the law's patterns and paths. -/
namespace KP
open PySem PySem.Spec PyProof.Rows L2 Gr GxR PM
def Gd (l : List Nat) : Prop := l[0]? = some 47 ∧ ∀ c ∈ l, c = 42 ∨ c ∈ SG
theorem dollar_out : 36 ∉ SG := by decide +kernel
theorem star_out : 42 ∉ SG := by decide +kernel
theorem Gd.last {l : List Nat} (h : Gd l) : ¬ (l.getLast? == some 36) = true := fun e => by
  have hm : 36 ∈ l := List.mem_of_getLast? (by simpa using e)
  rcases h.2 36 hm with q | q
  · cases q
  · exact dollar_out q
theorem Gd.snoc {l : List Nat} {c : Nat} (h : Gd l) (hc : c = 42 ∨ c ∈ SG) : Gd (l ++ [c]) := by
  refine ⟨?_, fun d hd => ?_⟩
  · obtain ⟨lt, e⟩ := List.getElem?_eq_some_iff.mp h.1
    rw [List.getElem?_append_left lt]
    exact h.1
  · rcases List.mem_append.mp hd with q | q
    · exact h.2 d q
    · rw [List.mem_singleton.mp q]
      exact hc
theorem isPat_mk {z : Str} (h1 : 1 ≤ z.length) (h2 : z.length ≤ 12) (hg : Gd (innerOf z)) : isPat z = true := by
  unfold isPat
  rw [decide_eq_true h1, decide_eq_true h2, hg.1]
  have : ((innerOf z).all fun c => c == 42 || decide (c ∈ SG)) = true := List.all_eq_true.mpr fun c hc => by
    rcases hg.2 c hc with e | e
    · rw [e]; rfl
    · rw [decide_eq_true e, Bool.or_true]
  rw [this]
  rfl
theorem Gd.len {z : Str} (h : Gd (bl z)) : 1 ≤ z.length := by
  rw [tx_len]
  exact (List.getElem?_eq_some_iff.mp h.1).1
theorem isPat_good {z : Str} (h : Gd (bl z)) (l : z.length ≤ 12) : isPat z = true := by
  refine isPat_mk h.len l ?_
  unfold innerOf
  rw [if_neg h.last]
  exact h
theorem isPat_dollar {z : Str} (h : Gd (bl z)) (l : z.length ≤ 11) : isPat (z ++ ("$" : Str)) = true := by
  have e : bl (z ++ ("$" : Str)) = bl z ++ [36] := by rw [lit_dollar]; exact tx_app _ _
  have el : (z ++ ("$" : Str)).length = z.length + 1 := by
    rw [tx_len]
    show (bl (z ++ ("$" : Str))).length = _
    rw [e, List.length_append]
    rfl
  refine isPat_mk (by omega) (by omega) ?_
  have : innerOf (z ++ ("$" : Str)) = bl z := by
    unfold innerOf
    show (if (bl (z ++ ("$" : Str))).getLast? == some 36 then (bl (z ++ ("$" : Str))).dropLast else _) = _
    rw [e]
    simp
  rw [this]
  exact h
def spSomePat : Sp := fun vs H Q _ => ∃ (p q : Addr) (st tp : Int) (xs : List V), vs = [.ref p, .ref q, .int st, .int tp] ∧ Well H p ∧ H q = some (.lst xs) ∧ q ≠ p ∧ 0 < xs.length ∧ xs.length ≤ 1000 ∧ (∀ v ∈ xs, OneS v) ∧ 0 ≤ tp ∧ tp ≤ 10 ∧
  ∀ (z : Str) (H' : Hp), But H H' p → Well H' p → isPat z = true → Q (.str z) H'
section
variable {P : Program} {w : World} {K : PySem.W.Frag} {mg : Str → Option Value} {base : Heap}
theorem sc_somepat : FnScope ["_law_well_here", "_law_signs_here", "_law_stars", "_law_top", "_law_text", "_law_left", "_law_turn"] ["_law_well_here", "_law_signs_here", "_law_stars", "_law_top"] (defScope s_l_some_pattern) := ⟨rfl, rfl, rfl, by decide +kernel, rfl, by decide +kernel, by decide +kernel⟩
theorem ok_l_some_pattern (T : D K mg) : FnOk P w K mg base CX0 3 T.f_l_some_pattern T.d_l_some_pattern ["_law_well_here", "_law_signs_here", "_law_stars", "_law_top"] spSomePat := by
  refine T.U_l_some_pattern.ok sc_somepat (fun vs H Q E h => ?_) (fun cdv A outer s H vs Q E hr h => ?_)
  · obtain ⟨p, q, st, tp, xs, rfl, _⟩ := h
    rfl
  · obtain ⟨p, q, st, tp, xs, rfl, hp, hq, nq, hx0, hx1, hx, t0, t1, k⟩ := h
    have nd := sc_somepat.nd
    have hu := hu_of hr
    have mz : 1000 ≤ sizeLine := by decide
    refine ⟨_, pss_cons (ps_par (i := 4) (j := 5) (by rfl) nd rfl rfl (by decide) rfl rfl (pa_cons pe_str (pa_cons (pv 2) pa_nil)) (by rfl))
      (pss_cons (ps_for PassesOwn.never rfl (pi_range1 rfl T.range (pa_cons (pe_call (ok_l_pick T) (hr.mono (by decide)) rfl T.g_l_pick T.U_l_pick.kp T.b_l_pick .nil pass0 (pa_cons (pv 0) (pa_cons (pe_op op_add (pv 3) pe_int) pa_nil))) pa_nil)) (pg_name (i := 6) nd rfl (.inl rfl))
        (pss_one (ps_if (PW.pt (pw_and (pt_cmpR op_gt (pv 5) pe_int (nomark _)) (pw_and1 (pt_cmpR op_eq (pe_call (ok_l_pick T) (hr.mono (by decide)) rfl T.g_l_pick T.U_l_pick.kp T.b_l_pick .nil pass0 (pa_cons (pv 0) (pa_cons pe_int pa_nil))) pe_int (nomark _)))))
          (pss_one (ps_par (i := 4) (j := 5) (by rfl) nd rfl rfl (by decide) rfl rfl (pa_cons (pe_op op_add_str (pv 4) pe_str) (pa_cons (pe_op op_sub (pv 5) pe_int) pa_nil)) (by rfl)))
          (pss_one (ps_set (i := 4) nd rfl (.inl rfl) (pe_op op_add_str (pv 4) (pe_call (ok_l_one T) hr rfl T.g_l_one T.U_l_one.kp T.b_l_one .nil pass0 (pa_cons (pv 0) (pa_cons (pv 1) pa_nil)))))))))
      (pss_one (ps_ret (pe_ifExp (pt_cmpR op_eq (pe_call (ok_l_pick T) (hr.mono (by decide)) rfl T.g_l_pick T.U_l_pick.kp T.b_l_pick .nil pass0 (pa_cons (pv 0) (pa_cons pe_int pa_nil))) pe_int (nomark _)) (pe_op op_add_str (pv 4) pe_str) (pv 4))))), ?_⟩
    have g0 : Gd (bl ("/" : Str)) := by
      rw [lit_slash]
      exact ⟨rfl, fun c hc => .inr (by rw [List.mem_singleton.mp hc]; exact slash_in)⟩
    refine ⟨_, rfl, _, _, rfl, ?_⟩
    refine ⟨_, rfl, _, rfl, _, _, rfl, rfl, p, _, rfl, hp, by omega, by omega, fun n H1 n0 n1 w1 b1 => ?_⟩
    refine ⟨_, rfl, by omega, by omega, for_range (n := _) (fun i σ H2 => But H H2 p ∧ Well H2 p ∧ ∃ (t : Str) (le : Int) (v6 : Option V), σ = [some (.ref p), some (.ref q), some (.int st), some (.int tp), some (.str t), some (.int le), v6] ∧ Gd (bl t) ∧ t.length = i + 1)
      ⟨b1, w1, "/", st, none, rfl, g0, rfl⟩ ?_ ?_⟩
    · rintro i σ H2 hi ⟨b2, w2, t, le, v6, rfl, gt, lt⟩
      have hi10 : i < 10 := by omega
      have app : ∀ (u : Str) (c : Nat), u = ⟨#[c]⟩ → (c = 42 ∨ c ∈ SG) → Gd (bl (t ++ u)) ∧ (t ++ u).length = i + 1 + 1 := fun u c e hc => by
        subst e
        have e1 : bl (t ++ (⟨#[c]⟩ : Str)) = bl t ++ [c] := tx_app _ _
        refine ⟨by rw [e1]; exact gt.snoc hc, ?_⟩
        rw [tx_len]
        show (bl (t ++ (⟨#[c]⟩ : Str))).length = _
        rw [e1, List.length_append]
        show t.length + 1 = _
        omega
      refine ⟨_, rfl, _, _, rfl, rfl, _, rfl, ?_⟩
      refine ite2 (fun _ => ?_) (fun _ => ?_)
      · refine ⟨_, rfl, p, 3, rfl, w2, by decide, by decide, fun m H3 m0 m1 w3 b3 => ⟨rfl, _, rfl, ite2 (fun _ => ?_) (fun _ => ?_)⟩⟩
        · refine ⟨_, rfl, _, _, rfl, rfl, ?_, _, rfl, _, _, rfl, rfl, _, _, rfl, ?_⟩
          · show t.length + 1 ≤ sizeLine
            omega
          · obtain ⟨g2, l2⟩ := app "*" 42 lit_star (.inl rfl)
            exact ⟨b2.trans b3, w3, _, _, _, rfl, g2, l2⟩
        · refine ⟨_, rfl, _, rfl, _, rfl, p, q, xs, rfl, w3, (b2.trans b3) _ _ hq nq, nq, hx0, hx1, fun j v H4 hv w4 b4 => ?_⟩
          obtain ⟨c, hc, rfl⟩ := hx v (List.mem_of_getElem? hv)
          refine ⟨_, _, rfl, rfl, ?_, ?_⟩
          · show t.length + 1 ≤ sizeLine
            omega
          · obtain ⟨g2, l2⟩ := app _ c rfl (.inr hc)
            exact ⟨b2.trans (b3.trans b4), w4, _, _, _, rfl, g2, l2⟩
      · refine ⟨_, rfl, _, rfl, _, rfl, p, q, xs, rfl, w2, b2 _ _ hq nq, nq, hx0, hx1, fun j v H4 hv w4 b4 => ?_⟩
        obtain ⟨c, hc, rfl⟩ := hx v (List.mem_of_getElem? hv)
        refine ⟨_, _, rfl, rfl, ?_, ?_⟩
        · show t.length + 1 ≤ sizeLine
          omega
        · obtain ⟨g2, l2⟩ := app _ c rfl (.inr hc)
          exact ⟨b2.trans b4, w4, _, _, _, rfl, g2, l2⟩
    · rintro σ H2 ⟨b2, w2, t, le, v6, rfl, gt, lt⟩
      have ln : t.length ≤ 11 := by omega
      refine ⟨_, rfl, p, 3, rfl, w2, by decide, by decide, fun m H3 m0 m1 w3 b3 => ⟨rfl, _, rfl, ite2 (fun _ => ?_) (fun _ => ?_)⟩⟩
      · refine ⟨_, rfl, _, _, rfl, rfl, ?_, k _ H3 (b2.trans b3) w3 (isPat_dollar gt ln)⟩
        show t.length + 1 ≤ sizeLine
        omega
      · exact ⟨_, rfl, k _ H3 (b2.trans b3) w3 (isPat_good gt (by omega))⟩
def PP (l : List Nat) : Prop := l[0]? = some 47 ∧ ∀ c ∈ l, c ∈ SG
theorem isPath_of {r : Str} (h : PP (bl r)) : isPath r = true := by
  unfold isPath
  have : (r.cps.toList.all fun c => decide (c ∈ SG)) = true := List.all_eq_true.mpr fun c hc => decide_eq_true (h.2 c hc)
  rw [this]
  show (((bl r)[0]? == some 47) && true) = true
  rw [h.1]
  rfl
theorem PP.snoc {l : List Nat} {c : Nat} (h : PP l) (hc : c ∈ SG) : PP (l ++ [c]) := by
  refine ⟨?_, fun d hd => ?_⟩
  · obtain ⟨lt, e⟩ := List.getElem?_eq_some_iff.mp h.1
    rw [List.getElem?_append_left lt]
    exact h.1
  · rcases List.mem_append.mp hd with q | q
    · exact h.2 d q
    · rw [List.mem_singleton.mp q]
      exact hc
/-- a sign put in the place of a later one -/
theorem PP.put {l : List Nat} {c k : Nat} (h : PP l) (hc : c ∈ SG) (h0 : 0 < k) (h1 : k < l.length) : PP (l.take k ++ [c] ++ l.drop (k + 1)) := by
  refine ⟨?_, fun d hd => ?_⟩
  · rw [List.append_assoc, List.getElem?_append_left (by rw [List.length_take]; omega), List.getElem?_take_of_lt h0]
    exact h.1
  · rcases List.mem_append.mp hd with q | q
    · rcases List.mem_append.mp q with q | q
      · exact h.2 d (List.mem_of_mem_take q)
      · rw [List.mem_singleton.mp q]
        exact hc
    · exact h.2 d (List.mem_of_mem_drop q)
theorem body_signs {z : Str} (h : isPat z = true) : ∀ c ∈ bl (bodyOf z), c = 42 ∨ c ∈ SG := by
  have hi := (isPat_inner h).2
  rw [body_list]
  unfold innerOf at hi
  by_cases q : ((bl z).getLast? == some 36) = true
  · rw [if_pos q] at hi ⊢
    exact hi
  · rw [if_neg q] at hi ⊢
    intro c hc
    rcases List.mem_append.mp hc with e | e
    · exact hi c e
    · exact .inl (List.mem_singleton.mp e)
def spSomePath : Sp := fun vs H Q _ => ∃ (p q : Addr) (z : Str) (xs : List V), vs = [.ref p, .ref q, .str z] ∧ Well H p ∧ H q = some (.lst xs) ∧ q ≠ p ∧ 0 < xs.length ∧ xs.length ≤ 1000 ∧ (∀ v ∈ xs, OneS v) ∧ isPat z = true ∧
  ∀ (r : Str) (H' : Hp), But H H' p → Well H' p → PP (bl r) → r.length ≤ 100 → Q (.str r) H'
section
variable {P : Program} {w : World} {K : PySem.W.Frag} {mg : Str → Option Value} {base : Heap}
theorem five_ints {j : Nat} {v : V} (h : ([.int 0, .int 1, .int 1, .int 2, .int 3] : List V)[j]? = some v) : ∃ n : Int, v = .int n ∧ 0 ≤ n ∧ n ≤ 3 := by
  match j, h with
  | 0, h => exact ⟨0, (Option.some.inj h).symm, by decide, by decide⟩
  | 1, h => exact ⟨1, (Option.some.inj h).symm, by decide, by decide⟩
  | 2, h => exact ⟨1, (Option.some.inj h).symm, by decide, by decide⟩
  | 3, h => exact ⟨2, (Option.some.inj h).symm, by decide, by decide⟩
  | 4, h => exact ⟨3, (Option.some.inj h).symm, by decide, by decide⟩
  | j + 5, h => cases h
theorem sc_somepath : FnScope ["_law_well_here", "_law_signs_here", "_law_shape", "_law_text", "_law_sign", "_law_turn", "_law_at"] ["_law_well_here", "_law_signs_here", "_law_shape"] (defScope s_l_some_path) := ⟨rfl, rfl, rfl, by decide +kernel, rfl, by decide +kernel, by decide +kernel⟩
theorem ok_l_some_path (T : D K mg) : FnOk P w K mg base CX0 3 T.f_l_some_path T.d_l_some_path ["_law_well_here", "_law_signs_here", "_law_shape"] spSomePath := by
  refine T.U_l_some_path.ok sc_somepath (fun vs H Q E h => ?_) (fun cdv A outer s H vs Q E hr h => ?_)
  · obtain ⟨p, q, z, xs, rfl, _⟩ := h
    rfl
  · obtain ⟨p, q, z, xs, rfl, hp, hq, nq, hx0, hx1, hx, hz, k⟩ := h
    have nd := sc_somepath.nd
    have mz : 1000 ≤ sizeLine := by decide
    refine ⟨_, pss_cons (ps_set (i := 3) nd rfl (.inl rfl) pe_str)
      (pss_cons (ps_for PassesOwn.never rfl (pi_str (pe_call (ok_l_body T) (hr.mono (by decide)) rfl T.g_l_body T.U_l_body.kp T.b_l_body .nil pass0 (pa_cons (pv 2) pa_nil))) (pg_name (i := 4) nd rfl (.inl rfl))
        (pss_one (ps_if (pt_cmpR op_eq (pv 4) pe_str (nomark _))
          (pss_one (ps_for PassesOwn.never rfl (pi_range1 rfl T.range (pa_cons (pe_call (ok_l_one T) hr rfl T.g_l_one T.U_l_one.kp T.b_l_one .nil pass0 (pa_cons (pv 0) (pa_cons (pe_lst (pa_cons pe_int (pa_cons pe_int (pa_cons pe_int (pa_cons pe_int (pa_cons pe_int pa_nil)))))) pa_nil))) pa_nil)) (pg_name (i := 5) nd rfl (.inl rfl))
            (pss_one (ps_set (i := 3) nd rfl (.inl rfl) (pe_op op_add_str (pv 3) (pe_call (ok_l_one T) hr rfl T.g_l_one T.U_l_one.kp T.b_l_one .nil pass0 (pa_cons (pv 0) (pa_cons (pv 1) pa_nil))))))))
          (pss_one (ps_set (i := 3) nd rfl (.inl rfl) (pe_op op_add_str (pv 3) (pv 4)))))))
      (pss_cons (ps_set (i := 6) nd rfl (.inl rfl) (pe_call (ok_l_pick T) (hr.mono (by decide)) rfl T.g_l_pick T.U_l_pick.kp T.b_l_pick .nil pass0 (pa_cons (pv 0) (pa_cons (pe_callB call_len_str (by rfl) T.len PySem.boot_len (pa_cons (pv 3) pa_nil)) pa_nil))))
      (pss_cons (ps_if (PW.pt (pw_and (pt_cmpR op_gt (pv 6) pe_int (nomark _)) (pw_and1 (pt_cmpR op_eq (pe_call (ok_l_pick T) (hr.mono (by decide)) rfl T.g_l_pick T.U_l_pick.kp T.b_l_pick .nil pass0 (pa_cons (pv 0) (pa_cons pe_int pa_nil))) pe_int (nomark _)))))
        (pss_one (ps_set (i := 3) nd rfl (.inl rfl) (pe_op op_add_str (pe_op op_add_str (pe_slice sl_str (pv 3) po_none (po_some (pv 6))) (pe_call (ok_l_oneS T) hr rfl T.g_l_one T.U_l_one.kp T.b_l_one .nil pass0 (pa_cons (pv 0) (pa_cons (pe_call0 (ok_l_signs T) (hr.mono (by decide)) (by rfl) T.g_l_signs T.U_l_signs.kp T.b_l_signs .nil pass0) pa_nil)))) (pe_slice sl_str (pv 3) (po_some (pe_op op_add (pv 6) pe_int)) po_none))))
        (pss_nil))
      (pss_one (ps_ret (pv 3)))))), ?_⟩
    have lb := body_len hz
    have app : ∀ (t : Str) (c : Nat), PP (bl t) → c ∈ SG → PP (bl (t ++ (⟨#[c]⟩ : Str))) ∧ (t ++ (⟨#[c]⟩ : Str)).length = t.length + 1 := fun t c ht hc => by
      have e1 : bl (t ++ (⟨#[c]⟩ : Str)) = bl t ++ [c] := tx_app _ _
      refine ⟨by rw [e1]; exact ht.snoc hc, ?_⟩
      rw [tx_len]
      show (bl (t ++ (⟨#[c]⟩ : Str))).length = _
      rw [e1, List.length_append]
      rfl
    refine ⟨_, rfl, z, rfl, hz, bodyOf z, rfl, for_it (walk_str (z := bodyOf z)) (fun i σ H2 => But H H2 p ∧ Well H2 p ∧ ∃ (t : Str) (v4 v5 : Option V), σ = [some (.ref p), some (.ref q), some (.str z), some (.str t), v4, v5, none] ∧ (i = 0 → t = ("" : Str)) ∧ (0 < i → PP (bl t)) ∧ t.length ≤ 3 * i)
      ⟨But.refl _ _, hp, "", none, none, rfl, fun _ => rfl, fun h => absurd h (by decide), Nat.le_refl _⟩ (fun _ _ _ _ _ => trivial) ?_ ?_⟩
    · rintro i x σ H2 H3 hi ⟨b2, w2, t, v4, v5, rfl, t0, tp, tl⟩ ⟨rfl, c, hc, rfl⟩
      have hcl : (bl (bodyOf z))[i]? = some c := (Array.getElem?_toList (xs := (bodyOf z).cps) (i := i)).trans hc
      have hi13 : i < 13 := by
        have : (bodyOf z).cps.size = (bodyOf z).length := rfl
        omega
      refine ⟨_, rfl, rfl, _, rfl, ite2 (fun h => ?_) (fun h => ?_)⟩
      · -- a star
        have h42 : c = 42 := by
          have := of_decide_eq_true h
          rw [lit_star] at this
          exact one_inj.mp (V.str.inj this)
        have hi0 : 0 < i := by
          rcases Nat.eq_zero_or_pos i with e | e
          · rw [e, body_first hz] at hcl
            rw [h42] at hcl
            cases hcl
          · exact e
        refine ⟨_, rfl, by show 5 ≤ sizeLine; decide, fun l hl => ?_⟩
        have sl := same_upd (o := HO.lst [V.int 0, V.int 1, V.int 1, V.int 2, V.int 3]) hl
        have wl : Well (upd H3 l (.lst [V.int 0, V.int 1, V.int 1, V.int 2, V.int 3])) p := let ⟨a, b, c, e⟩ := w2; ⟨a, b, c, sl _ _ e⟩
        have nlp : l ≠ p := fun e => by
          obtain ⟨a, b, c, e2⟩ := w2
          rw [e, e2] at hl
          cases hl
        refine ⟨p, l, _, rfl, wl, upd_same, nlp, by decide, by decide, fun j v H4 hv w4 b4 => ?_⟩
        obtain ⟨n, rfl, n0, n3⟩ := five_ints hv
        have b04 : But H H4 p := b2.trans ((But.mk' sl).trans b4)
        refine ⟨n, rfl, by omega, by omega, for_range (n := _) (fun m σ H5 => But H H5 p ∧ Well H5 p ∧ ∃ (u : Str) (v5 : Option V), σ = [some (.ref p), some (.ref q), some (.str z), some (.str u), some (.str ⟨#[c]⟩), v5, none] ∧ PP (bl u) ∧ u.length = t.length + m)
          ⟨b04, w4, t, v5, rfl, tp hi0, rfl⟩ ?_ ?_⟩
        · rintro m σ H5 hm ⟨b5, w5, u, v5, rfl, pu, lu⟩
          have hm3 : m < 3 := by omega
          refine ⟨_, rfl, _, rfl, _, rfl, p, q, xs, rfl, w5, b5 _ _ hq nq, nq, hx0, hx1, fun j v H6 hv w6 b6 => ?_⟩
          obtain ⟨d, hd, rfl⟩ := hx v (List.mem_of_getElem? hv)
          obtain ⟨p2, l2⟩ := app u d pu hd
          refine ⟨_, _, rfl, rfl, ?_, b5.trans b6, w6, _, _, rfl, p2, by omega⟩
          show u.length + 1 ≤ sizeLine
          omega
        · rintro σ H5 ⟨b5, w5, u, v5, rfl, pu, lu⟩
          exact ⟨b5, w5, u, _, _, rfl, fun e => absurd e (Nat.succ_ne_zero i), fun _ => pu, by omega⟩
      · have h42 : c ≠ 42 := fun e => h (decide_eq_true (by rw [e, lit_star]))
        have hSG : c ∈ SG := (body_signs hz c (List.mem_of_getElem? hcl)).resolve_left h42
        refine ⟨_, rfl, _, rfl, _, _, rfl, rfl, ?_, b2, w2, _, _, _, rfl, fun e => absurd e (Nat.succ_ne_zero i), fun _ => ?_, ?_⟩
        · show t.length + 1 ≤ sizeLine
          omega
        · rcases Nat.eq_zero_or_pos i with e | e
          · rw [t0 e]
            rw [e, body_first hz] at hcl
            have : c = 47 := (Option.some.inj hcl).symm
            subst this
            refine ⟨?_, fun d hd => ?_⟩
            · decide +kernel
            · have e3 : bl (("" : Str) ++ (⟨#[47]⟩ : Str)) = [47] := by decide +kernel
              rw [e3] at hd
              rw [List.mem_singleton.mp hd]
              exact slash_in
          · exact (app t c (tp e) hSG).1
        · have : (t ++ (⟨#[c]⟩ : Str)).length = t.length + 1 := by
            rw [tx_len, tx_app, List.length_append]
            rfl
          omega
    · rintro σ H2 ⟨b2, w2, t, v4, v5, rfl, t0, tp, tl⟩
      have hbz : (bodyOf z).cps.size = (bodyOf z).length := rfl
      have hpos : 0 < (bodyOf z).length := (List.getElem?_eq_some_iff.mp (body_first hz)).1
      have pt : PP (bl t) := tp (by omega)
      have ltp : 0 < t.length := (List.getElem?_eq_some_iff.mp pt.1).1
      have lt39 : t.length ≤ 39 := by omega
      refine ⟨_, rfl, _, rfl, _, rfl, by omega, p, _, rfl, w2, by omega, by omega, fun n H3 n0 n1 w3 b3 => ?_⟩
      obtain ⟨m, rfl⟩ := Int.eq_ofNat_of_zero_le n0
      have hm : m < t.length := by omega
      refine ⟨_, rfl, _, _, rfl, rfl, _, rfl, ite2 (fun h => ?_) (fun h => ?_)⟩
      · have m0 : 0 < m := by
          have := of_decide_eq_true h
          omega
        refine ⟨_, rfl, p, 3, rfl, w3, by decide, by decide, fun y H4 y0 y1 w4 b4 => ⟨rfl, _, rfl, ite2 (fun _ => ?_) (fun _ => ?_)⟩⟩
        · refine ⟨_, rfl, _, rfl, _, rfl, t, rfl, by omega, _, rfl, ⟨rfl, p, SGs, rfl, w4, SGs_pos, SGs_len, fun c H5 hc w5 b5 => ?_⟩⟩
          have e1 : bl (cutS t none (some ((m : Nat) : Int))) = (bl t).take m := cut_to t m
          have e2 : bl (cutS t (some (((m : Nat) : Int) + 1)) none) = (bl t).drop (m + 1) := cut_from t (m + 1)
          have l1 := cutS_length t none (some ((m : Nat) : Int))
          have l2 := cutS_length t (some (((m : Nat) : Int) + 1)) none
          have e3 : bl (cutS t none (some ((m : Nat) : Int)) ++ (⟨#[c]⟩ : Str)) = (bl t).take m ++ [c] := by rw [← e1]; exact tx_app _ _
          have e4 : bl (cutS t none (some ((m : Nat) : Int)) ++ (⟨#[c]⟩ : Str) ++ cutS t (some (((m : Nat) : Int) + 1)) none) = (bl t).take m ++ [c] ++ (bl t).drop (m + 1) := by rw [← e2, ← e3]; exact tx_app _ _
          have l4 : (cutS t none (some ((m : Nat) : Int)) ++ (⟨#[c]⟩ : Str)).length ≤ 40 := by
            rw [PySem.Str.length_append]
            show _ + 1 ≤ 40
            omega
          refine ⟨_, _, rfl, rfl, ?_, _, rfl, _, rfl, _, _, rfl, rfl, _, rfl, t, rfl, by omega, _, _, rfl, rfl, ?_, ?_⟩
          · show _ + 1 ≤ sizeLine
            omega
          · omega
          · refine ⟨_, rfl, k _ H5 (b2.trans (b3.trans (b4.trans b5))) w5 ?_ ?_⟩
            · rw [e4]
              exact pt.put hc m0 hm
            · rw [PySem.Str.length_append]
              omega
        · exact ⟨_, rfl, k _ H4 (b2.trans (b3.trans b4)) w4 pt (by omega)⟩
      · exact ⟨_, rfl, k _ H3 (b2.trans b3) w3 pt (by omega)⟩
end
end
end KP

set_option Elab.async false
set_option maxRecDepth 100000
set_option maxHeartbeats 4000000
set_option linter.all false
/-! Ours: the mathematics of what decides: the first in the order is the one that the law finds. -/
namespace KP
open PySem PySem.Spec PyProof.Rows L2 Gr GxR PM PySem.W
def b01 (b : Bool) : Int := if b = true then 1 else 0
theorem le3 {key : Nat → PyData} {i j : Nat} {a a' c c' : Int} {b b' : Bool} (h : key i = .tuple [.int a, .bool b, .int c]) (h' : key j = .tuple [.int a', .bool b', .int c']) : dataLe false key i j = !decide ([a', b01 b', c'] < [a, b01 b, c]) := by
  show (!dataLt (key j) (key i)) = _
  rw [h, h', dataLt_tuple]
  have e : ∀ (a c : Int) (b : Bool), keyToksAll [.int a, .bool b, .int c] = keyToksAll ([a, b01 b, c].map .int) := fun a c b => by
    cases b <;> simp [keyToksAll, keyToks, b01]
  rw [e, e]
  have := dataLt_ints [a', b01 b', c'] [a, b01 b, c]
  unfold rowLt at this
  rw [this]
theorem lt3 {a a' b b' c c' : Int} : [a', b', c'] < [a, b, c] ↔ a' < a ∨ (a' = a ∧ (b' < b ∨ (b' = b ∧ c' < c))) := by
  simp [List.cons_lt_cons_iff]
/-- the key of a row -/
def kA (rows : List (Str × Str)) (i : Nat) : Int := -((rows.getD i ("", "")).2.length : Int)
def kB (rows : List (Str × Str)) (i : Nat) : Int := b01 ((rows.getD i ("", "")).1 == barS)
/-- i stands ahead of j -/
def ahd (rows : List (Str × Str)) (i j : Nat) : Prop := kA rows i < kA rows j ∨ (kA rows i = kA rows j ∧ (kB rows i < kB rows j ∨ (kB rows i = kB rows j ∧ i < j)))
theorem le_ahd {rows : List (Str × Str)} {i j : Nat} (hi : i < rows.length) (hj : j < rows.length) : dataLe false (keyR [.tuple (rows.map rowP)]) i j = true ↔ ¬ ahd rows j i := by
  rw [le3 (key_at hi) (key_at hj), Bool.not_eq_true', decide_eq_false_iff_not, lt3]
  unfold ahd kA kB
  rw [List.getD_eq_getElem?_getD, List.getD_eq_getElem?_getD, List.getElem?_eq_getElem hi, List.getElem?_eq_getElem hj]
  simp only [Option.getD_some]
  constructor
  · intro h z
    apply h
    omega
  · intro h z
    apply h
    omega
theorem find_min {α : Type} {R : α → α → Prop} {p : α → Bool} : ∀ {l : List α} {i : α}, l.Pairwise R → l.find? p = some i → ∀ j ∈ l, p j = true → j = i ∨ R i j
  | [], _, _, h, _, hj, _ => by cases hj
  | a :: l, i, pw, h, j, hj, pj => by
    rw [List.find?_cons] at h
    obtain ⟨h1, h2⟩ := List.pairwise_cons.mp pw
    cases ha : p a with
    | true =>
      rw [ha] at h
      obtain rfl : a = i := Option.some.inj h
      rcases List.mem_cons.mp hj with rfl | hj
      · exact .inl rfl
      · exact .inr (h1 j hj)
    | false =>
      rw [ha] at h
      rcases List.mem_cons.mp hj with rfl | hj
      · rw [ha] at pj; cases pj
      · exact find_min h2 h j hj pj
theorem key_trans (fd : List PyData) (x y z : Nat) (h1 : dataLe false (keyR fd) x y = true) (h2 : dataLe false (keyR fd) y z = true) : dataLe false (keyR fd) x z = true := by
  obtain ⟨a, b, e⟩ := keyR_form fd x
  obtain ⟨a', b', e'⟩ := keyR_form fd y
  obtain ⟨a2, b2, e2⟩ := keyR_form fd z
  rw [le3 e e', Bool.not_eq_true', decide_eq_false_iff_not, lt3] at h1
  rw [le3 e' e2, Bool.not_eq_true', decide_eq_false_iff_not, lt3] at h2
  rw [le3 e e2, Bool.not_eq_true', decide_eq_false_iff_not, lt3]
  omega
theorem key_total (fd : List PyData) (x y : Nat) : (dataLe false (keyR fd) x y || dataLe false (keyR fd) y x) = true := by
  obtain ⟨a, b, e⟩ := keyR_form fd x
  obtain ⟨a', b', e'⟩ := keyR_form fd y
  rw [le3 e e', le3 e' e, Bool.or_eq_true, Bool.not_eq_true', Bool.not_eq_true', decide_eq_false_iff_not, decide_eq_false_iff_not, lt3, lt3]
  omega
theorem ord_pw (fd : List PyData) (n : Nat) : (ordL (keyR fd) n).Pairwise fun i j => dataLe false (keyR fd) i j = true :=
  List.pairwise_mergeSort (key_trans fd) (key_total fd) _
/-- the one that decides, said without an order -/
def IsDec (rows : List (Str × Str)) (r : Str) (n : Nat) : Option Nat → Prop
  | none => ∀ k, k < n → fitsB (rows.getD k ("", "")).2 r = false
  | some i => i < n ∧ fitsB (rows.getD i ("", "")).2 r = true ∧ ∀ k, k < n → fitsB (rows.getD k ("", "")).2 r = true → ¬ ahd rows k i
theorem ahd_asym {rows : List (Str × Str)} {i j : Nat} (h : ¬ ahd rows i j) (h' : ¬ ahd rows j i) : i = j := by
  unfold ahd at h h'
  omega
theorem isDec_one {rows : List (Str × Str)} {r : Str} {n : Nat} {x y : Option Nat} (h : IsDec rows r n x) (h' : IsDec rows r n y) : x = y := by
  cases x with
  | none =>
    cases y with
    | none => rfl
    | some i => have := h i h'.1; rw [h'.2.1] at this; cases this
  | some i =>
    cases y with
    | none => have := h' i h.1; rw [h.2.1] at this; cases this
    | some j => rw [ahd_asym (h'.2.2 i h.1 h.2.1) (h.2.2 j h'.1 h'.2.1)]
theorem decI_is (rows : List (Str × Str)) (r : Str) : IsDec rows r rows.length (decI rows r) := by
  have mem : ∀ k, k < rows.length → k ∈ ordL (keyR [.tuple (rows.map rowP)]) rows.length := fun k hk => by
    unfold ordL
    exact (List.mergeSort_perm _ _).mem_iff.mpr (List.mem_range.mpr hk)
  cases h : decI rows r with
  | none =>
    unfold decI at h
    rw [List.find?_eq_none] at h
    intro k hk
    simpa using h k (mem k hk)
  | some i =>
    unfold decI at h
    have hi := ord_lt (List.mem_of_find?_eq_some h)
    have t := List.find?_some h
    refine ⟨hi, t, fun k hk hf => ?_⟩
    rcases find_min (ord_pw _ _) h k (mem k hk) hf with rfl | q
    · unfold ahd
      omega
    · exact (le_ahd hi hk).mp q
end KP

set_option Elab.async false
set_option maxRecDepth 100000
set_option maxHeartbeats 4000000
set_option linter.all false
/-! Ours: _law_decides, _law_bars. -/
namespace KP
open PySem PySem.Spec PyProof.Rows L2 Gr GxR PM
theorem isDec_skip {rows : List (Str × Str)} {r : Str} {j : Nat} {x : Option Nat} (hf : fitsB (rows.getD j ("", "")).2 r = false) (h : IsDec rows r j x) : IsDec rows r (j + 1) x := by
  cases x with
  | none =>
    intro k hk
    by_cases e : k = j
    · rw [e]; exact hf
    · exact h k (by omega)
  | some i =>
    refine ⟨by have := h.1; omega, h.2.1, fun k hk hfk => ?_⟩
    by_cases e : k = j
    · rw [e, hf] at hfk; cases hfk
    · exact h.2.2 k (by omega) hfk
theorem isDec_first {rows : List (Str × Str)} {r : Str} {j : Nat} (hf : fitsB (rows.getD j ("", "")).2 r = true) (h : IsDec rows r j none) : IsDec rows r (j + 1) (some j) := by
  refine ⟨by omega, hf, fun k hk hfk => ?_⟩
  by_cases e : k = j
  · rw [e]
    unfold ahd
    omega
  · rw [h k (by omega)] at hfk; cases hfk
theorem isDec_take {rows : List (Str × Str)} {r : Str} {j b : Nat} (hf : fitsB (rows.getD j ("", "")).2 r = true) (h : IsDec rows r j (some b)) (ha : ahd rows j b) : IsDec rows r (j + 1) (some j) := by
  refine ⟨by omega, hf, fun k hk hfk => ?_⟩
  by_cases e : k = j
  · rw [e]
    unfold ahd
    omega
  · have := h.2.2 k (by omega) hfk
    unfold ahd at this ha ⊢
    omega
theorem isDec_keep {rows : List (Str × Str)} {r : Str} {j b : Nat} (h : IsDec rows r j (some b)) (ha : ¬ ahd rows j b) : IsDec rows r (j + 1) (some b) := by
  refine ⟨by have := h.1; omega, h.2.1, fun k hk hfk => ?_⟩
  by_cases e : k = j
  · rw [e]; exact ha
  · exact h.2.2 k (by omega) hfk
theorem ahd_iff {rows : List (Str × Str)} (R : RowsR rows) {j b : Nat} (hj : j < rows.length) (hb : b < j) : ahd rows j b ↔ ((rows.getD b ("", "")).2.length < (rows.getD j ("", "")).2.length ∨ ((rows.getD j ("", "")).2.length = (rows.getD b ("", "")).2.length ∧ (rows.getD j ("", "")).1 = "let" ∧ (rows.getD b ("", "")).1 = "bar")) := by
  have w : ∀ i, i < rows.length → (rows.getD i ("", "")).1 = "bar" ∨ (rows.getD i ("", "")).1 = "let" := fun i hi => by
    have := R.word _ (List.getElem_mem hi)
    rw [List.getD_eq_getElem?_getD, List.getElem?_eq_getElem hi]
    unfold wordB at this
    simpa using this
  have hbl : ("bar" : Str) ≠ "let" := by decide +kernel
  have wj := w j hj
  have wb := w b (by omega)
  unfold ahd kA kB
  generalize (rows.getD j ("", "")) = rj at *
  generalize (rows.getD b ("", "")) = rb at *
  have bb : ∀ z : Str, b01 (z == barS) = if z = "bar" then 1 else 0 := fun z => by
    unfold b01 barS
    by_cases h : z = "bar"
    · rw [if_pos h, h]
      simp
    · rw [if_neg h]
      simp [h]
  rw [bb, bb]
  rcases wj with h1 | h1 <;> rcases wb with h2 | h2 <;> rw [h1, h2] <;> simp [hbl, Ne.symm hbl] <;> omega
def spLDec : Sp := fun vs H Q _ => ∃ (pv : V) (rows : List (Str × Str)) (r : Str), vs = [pv, .str r] ∧ Od H pv (.tuple (rows.map rowP)) ∧ RowsR rows ∧ r.length ≤ 1000 ∧ ∀ H', Same H H' → Q (optN (decI rows r)) H'
section
variable {P : Program} {w : World} {K : PySem.W.Frag} {mg : Str → Option Value} {base : Heap}
theorem sc_ldec : FnScope ["_law_listed", "_law_route", "_law_best", "_law_at", "_law_row"] ["_law_listed", "_law_route"] (defScope s_l_decides) := ⟨rfl, rfl, rfl, by decide +kernel, rfl, by decide +kernel, by decide +kernel⟩
theorem ok_ldec (T : D K mg) : FnOk P w K mg base CX0 3 T.f_l_decides T.d_l_decides ["_law_listed", "_law_route"] spLDec := by
  refine T.U_l_decides.ok sc_ldec (fun vs H Q E h => ?_) (fun cdv A outer s H vs Q E hr h => ?_)
  · obtain ⟨pv, rows, r, rfl, _⟩ := h
    rfl
  · obtain ⟨pv', rows, r, rfl, oP, R, hr1, k⟩ := h
    have nd := sc_ldec.nd
    have mz : 5000 ≤ sizeLine := by decide
    refine ⟨_, pss_cons (ps_set (i := 2) nd rfl (.inl rfl) pe_non)
      (pss_cons (ps_for PassesOwn.never rfl (pi_enumT (by rfl) T.enumerate (pa_cons (pv 0) pa_nil)) (pg_tup rfl (pgs_cons (pg_name (i := 3) nd rfl (.inl rfl)) (pgs_cons (pg_name (i := 4) nd rfl (.inl rfl)) pgs_nil)))
        (pss_one (ps_if (pt_val (pe_call (ok_l_meets T) hr rfl T.g_l_meets T.U_l_meets.kp T.b_l_meets .nil pass0 (pa_cons (pe_ix ix_tup (pv 4) pe_int (fun _ _ => rfl)) (pa_cons (pv 1) pa_nil))))
          (pss_one (ps_if (PW.pt (pw_or (pt_cmpR op_isN (pv 2) pe_non (nomark _)) (pw_or1 (pt_cmpR op_gt (pe_callB call_len_str (by rfl) T.len PySem.boot_len (pa_cons (pe_ix ix_tup (pv 4) pe_int (fun _ _ => rfl)) pa_nil)) (pe_callB call_len_str (by rfl) T.len PySem.boot_len (pa_cons (pe_ix ix_tup (pe_ix ix_tup (pv 0) (pv 2) (fun _ _ => rfl)) pe_int (fun _ _ => rfl)) pa_nil)) (nomark _)))))
            (pss_one (ps_set (i := 2) nd rfl (.inl rfl) (pv 3)))
            (pss_one (ps_if (PW.pt (pw_and (pt_cmpR op_eq (pe_callB call_len_str (by rfl) T.len PySem.boot_len (pa_cons (pe_ix ix_tup (pv 4) pe_int (fun _ _ => rfl)) pa_nil)) (pe_callB call_len_str (by rfl) T.len PySem.boot_len (pa_cons (pe_ix ix_tup (pe_ix ix_tup (pv 0) (pv 2) (fun _ _ => rfl)) pe_int (fun _ _ => rfl)) pa_nil)) (nomark _)) (pw_and (pt_cmpR op_eq (pe_ix ix_tup (pv 4) pe_int (fun _ _ => rfl)) pe_str (nomark _)) (pw_and1 (pt_cmpR op_eq (pe_ix ix_tup (pe_ix ix_tup (pv 0) (pv 2) (fun _ _ => rfl)) pe_int (fun _ _ => rfl)) pe_str (nomark _))))))
              (pss_one (ps_set (i := 2) nd rfl (.inl rfl) (pv 3)))
              (pss_nil)))))
          (pss_nil))))
      (pss_one (ps_ret (pv 2)))), ?_⟩
    obtain ⟨a, xs, rfl, ea, oa⟩ := od_tup oP
    have lx : xs.length = rows.length := by rw [oa.len, List.length_map]
    have l6 := R.len
    refine gn ?_
    dsimp only
    refine ⟨_, rfl, a, xs, rfl, SqT.of ea, for_it (walk_tp (K := K) (a := a) (xs := xs)) (fun j σ H2 => Same H H2 ∧ ∃ (best : Option Nat) (v3 v4 : Option V), IsDec rows r j best ∧ σ = [some (.ref a), some (.str r), some (optN best), v3, v4]) ⟨.refl _, none, none, none, (fun k hk => absurd hk (Nat.not_lt_zero k)), rfl⟩ (fun i σ H2 _ q => SqT.of (q.1 _ _ ea)) ?_ ?_⟩
    · rintro j x σ H2 H3 hi ⟨s2, best, v3, v4, hd, rfl⟩ ⟨Tt, y, rfl, hTn, rfl, hy⟩
      obtain ⟨d, hdm, oy⟩ := od_at oa hy
      rw [List.getElem?_map] at hdm
      obtain ⟨q, hqj, rfl⟩ := Option.map_eq_some_iff.mp hdm
      have hqm := List.mem_of_getElem? hqj
      have hjr : j < rows.length := by omega
      have gj : rows.getD j ("", "") = q := by rw [List.getD_eq_getElem?_getD, hqj]; rfl
      have s3 := s2.trans (same_upd (o := HO.tup [V.int (j : Nat), y]) hTn)
      obtain ⟨b, bx, rfl, eb, ob⟩ := od_tup oy
      match bx, ob with
      | [_, _], .cons o1 (.cons o2 .nil) =>
      cases o1
      cases o2
      have eb3 := s3 _ _ eb
      have hlq : q.2.length ≤ sizeLine := Nat.le_trans (isPat_len (R.pat q hqm)).2 (Nat.le_trans (by decide : 12 ≤ 5000) mz)
      refine ⟨_, _, rfl, SqT.of upd_same, rfl, _, _, rfl, _, _, rfl, rfl, ?_⟩
      dsimp only
      refine ⟨_, rfl, b, _, 1, .str q.2, rfl, rfl, SqT.of eb3, rfl, _, rfl, q.2, r, rfl, R.pat q hqm, hr1, fun H4 s4 => ⟨_, rfl, ?_⟩⟩
      have s34 := s3.trans s4
      have eb4 := s4 _ _ eb3
      have hmet : met (bl (bodyOf q.2)) (bl r) = fitsB (rows.getD j ("", "")).2 r := by rw [gj]; rfl
      rw [hmet]
      cases hf : fitsB (rows.getD j ("", "")).2 r with
      | false => exact iteF ⟨s34, best, _, _, isDec_skip hf hd, rfl⟩
      | true =>
        refine iteT ?_
        cases best with
        | none =>
          refine ⟨_, rfl, rfl, _, rfl, iteT ⟨_, rfl, gn ?_⟩⟩
          exact ⟨s34, some j, _, _, isDec_first hf hd, rfl⟩
        | some i =>
          have hij := hd.1
          have hir : i < rows.length := by omega
          have gi : rows.getD i ("", "") = rows[i] := by rw [List.getD_eq_getElem?_getD, List.getElem?_eq_getElem hir]; rfl
          obtain ⟨xi, hxi, oxi⟩ := OdAll.get oa (i := i) (d := rowP rows[i]) (by rw [List.getElem?_map, List.getElem?_eq_getElem hir]; rfl)
          obtain ⟨bi, bxi, rfl, ebi, obi⟩ := od_tup oxi
          have hai := ahd_iff R hjr hij
          rw [gj, gi] at hai
          have hli : rows[i].2.length ≤ sizeLine := Nat.le_trans (isPat_len (R.pat _ (List.getElem_mem hir))).2 (Nat.le_trans (by decide : 12 ≤ 5000) mz)
          generalize rows[i] = qi at *
          match bxi, obi with
          | [_, _], .cons o3 (.cons o4 .nil) =>
          cases o3
          cases o4
          have ebi4 := s34 _ _ ebi
          have ea4 := s34 _ _ ea
          refine ⟨_, rfl, rfl, _, rfl, iteF ?_⟩
          refine ⟨_, rfl, b, _, 1, .str q.2, rfl, rfl, SqT.of eb4, rfl, q.2, rfl, hlq, _, rfl, _, rfl, a, _, (i : Nat), _, rfl, rfl, SqT.of ea4, atI_nat hxi, bi, _, 1, .str qi.2, rfl, rfl, SqT.of ebi4, rfl, qi.2, rfl, hli, _, _, rfl, rfl, _, rfl, ite2 (fun hh => ?_) (fun hh => ?_)⟩
          · have hh := of_decide_eq_true hh
            refine ⟨_, rfl, gn ?_⟩
            exact ⟨s34, some j, _, _, isDec_take hf hd (hai.mpr (.inl (by omega))), rfl⟩
          · have hn : ¬ ((q.2.length : Nat) : Int) > ((qi.2.length : Nat) : Int) := fun z => hh (decide_eq_true z)
            refine ⟨_, rfl, b, _, 1, .str q.2, rfl, rfl, SqT.of eb4, rfl, q.2, rfl, hlq, _, rfl, _, rfl, a, _, (i : Nat), _, rfl, rfl, SqT.of ea4, atI_nat hxi, bi, _, 1, .str qi.2, rfl, rfl, SqT.of ebi4, rfl, qi.2, rfl, hli, rfl, _, rfl, ?_⟩
            have keep : ¬ ((q.2.length = qi.2.length) ∧ q.1 = "let" ∧ qi.1 = "bar") → ¬ ahd rows j i := fun z y => by
              rcases hai.mp y with y | y
              · exact hn (by omega)
              · exact z y
            refine ite2 (fun hl => ?_) (fun hl => ?_)
            · have hl := of_decide_eq_true hl
              have hl : q.2.length = qi.2.length := by injection hl with hl; omega
              refine ⟨_, rfl, b, _, 0, .str q.1, rfl, rfl, SqT.of eb4, rfl, rfl, _, rfl, ?_⟩
              refine ite2 (fun h1 => ?_) (fun h1 => ?_)
              · have h1 := of_decide_eq_true h1
                have h1 : q.1 = "let" := by injection h1
                refine ⟨_, rfl, _, rfl, a, _, (i : Nat), _, rfl, rfl, SqT.of ea4, atI_nat hxi, bi, _, 0, .str qi.1, rfl, rfl, SqT.of ebi4, rfl, rfl, _, rfl, ?_⟩
                refine ite2 (fun h2 => ?_) (fun h2 => ?_)
                · have h2 := of_decide_eq_true h2
                  have h2 : qi.1 = "bar" := by injection h2
                  refine ⟨_, rfl, gn ?_⟩
                  exact ⟨s34, some j, _, _, isDec_take hf hd (hai.mpr (.inr ⟨hl, h1, h2⟩)), rfl⟩
                · exact ⟨s34, some i, _, _, isDec_keep hd (keep fun z => h2 (decide_eq_true (congrArg V.str z.2.2))), rfl⟩
              · exact iteF ⟨s34, some i, _, _, isDec_keep hd (keep fun z => h1 (decide_eq_true (congrArg V.str z.2.1))), rfl⟩
            · exact iteF ⟨s34, some i, _, _, isDec_keep hd (keep fun z => hl (decide_eq_true (by rw [z.1]))), rfl⟩
    · rintro σ H2 ⟨s2, best, v3, v4, hd, rfl⟩
      rw [lx] at hd
      rw [isDec_one (decI_is rows r) hd] at k
      exact ⟨_, rfl, k H2 s2⟩
end
end KP

set_option Elab.async false
set_option maxRecDepth 100000
set_option maxHeartbeats 4000000
set_option linter.all false
/-! Ours: _law_bars, _law_shuffled. -/
namespace KP
open PySem PySem.Spec PyProof.Rows L2 Gr GxR PM
def barsB (rows : List (Str × Str)) (r : Str) : Bool := match decI rows r with
  | none => false
  | some i => (rows.getD i ("", "")).1 == "bar"
def spLBars : Sp := fun vs H Q _ => ∃ (pv : V) (rows : List (Str × Str)) (r : Str), vs = [pv, .str r] ∧ Od H pv (.tuple (rows.map rowP)) ∧ RowsR rows ∧ r.length ≤ 1000 ∧ ∀ H', Same H H' → Q (.bl (barsB rows r)) H'
/-- what bars is what is not let -/
theorem bars_let {rows : List (Str × Str)} (R : RowsR rows) (r : Str) : letB rows r = !barsB rows r := by
  unfold letB barsB
  cases h : decI rows r with
  | none => rfl
  | some i =>
    have hi : i < rows.length := by
      unfold decI at h
      exact ord_lt (List.mem_of_find?_eq_some h)
    have := R.word _ (List.getElem_mem hi)
    dsimp only
    rw [List.getD_eq_getElem?_getD, List.getElem?_eq_getElem hi]
    show (rows[i].1 == "let") = !(rows[i].1 == "bar")
    unfold wordB at this
    have hbl : ("bar" : Str) ≠ "let" := by decide +kernel
    rcases (by simpa using this : rows[i].1 = "bar" ∨ rows[i].1 = "let") with e | e <;> rw [e] <;> simp [hbl, Ne.symm hbl]
section
variable {P : Program} {w : World} {K : PySem.W.Frag} {mg : Str → Option Value} {base : Heap}
theorem sc_lbars : FnScope ["_law_listed", "_law_route", "_law_best"] ["_law_listed", "_law_route"] (defScope s_l_bars) := ⟨rfl, rfl, rfl, by decide +kernel, rfl, by decide +kernel, by decide +kernel⟩
theorem ok_lbars (T : D K mg) : FnOk P w K mg base CX0 4 T.f_l_bars T.d_l_bars ["_law_listed", "_law_route"] spLBars := by
  refine T.U_l_bars.ok sc_lbars (fun vs H Q E h => ?_) (fun cdv A outer s H vs Q E hr h => ?_)
  · obtain ⟨pv, rows, r, rfl, _⟩ := h
    rfl
  · obtain ⟨pv', rows, r, rfl, oP, R, hr1, k⟩ := h
    have nd := sc_lbars.nd
    refine ⟨_, pss_cons (ps_set (i := 2) nd rfl (.inl rfl) (pe_call (ok_ldec T) hr rfl T.g_l_decides T.U_l_decides.kp T.b_l_decides .nil pass0 (pa_cons (pv 0) (pa_cons (pv 1) pa_nil))))
      (pss_one (ps_ret (pe_and (pe_cmpR op_notN (pv 2) pe_non (nomark _)) (pe_one (pe_cmpR op_eq (pe_ix ix_tup (pe_ix ix_tup (pv 0) (pv 2) (fun _ _ => rfl)) pe_int (fun _ _ => rfl)) pe_str (nomark _)))))), ?_⟩
    refine ⟨_, rfl, _, rfl, pv', rows, r, rfl, oP, R, hr1, fun H1 s1 => gn ?_⟩
    dsimp only
    have q := k H1 s1
    unfold barsB at q
    obtain ⟨pa, pxs, rfl, ep, op⟩ := od_tup (oP.same s1)
    cases hd : decI rows r with
    | none =>
      rw [hd] at q
      refine ⟨_, rfl, rfl, false, rfl, iteF ?_⟩
      exact q
    | some i =>
      rw [hd] at q
      have hi : i < rows.length := by
        unfold decI at hd
        exact ord_lt (List.mem_of_find?_eq_some hd)
      refine ⟨_, rfl, rfl, true, rfl, iteT ?_⟩
      obtain ⟨xr, hxr, oxr⟩ := OdAll.get op (i := i) (d := rowP rows[i]) (by rw [List.getElem?_map, List.getElem?_eq_getElem hi]; rfl)
      obtain ⟨b, bx, rfl, eb, ob⟩ := od_tup oxr
      match bx, ob with
      | [_, _], .cons o1 (.cons o2 .nil) =>
      cases o1
      refine ⟨_, rfl, _, rfl, pa, _, (i : Nat), _, rfl, rfl, SqT.of ep, atI_nat hxr, b, _, 0, _, rfl, rfl, SqT.of eb, rfl, rfl, ?_⟩
      rw [str_eqB]
      dsimp only at q
      rw [List.getD_eq_getElem?_getD, List.getElem?_eq_getElem hi] at q
      exact q
end
end KP

set_option Elab.async false
set_option maxRecDepth 100000
set_option maxHeartbeats 4000000
set_option linter.all false
/-! Ours: how often a sign stands in a text. -/
namespace KP
open PySem PySem.Spec PyProof.Rows L2 Gr GxR PM
theorem occ_many (s sub : Str) (h1 : sub.length = 1) (hi limit : Nat) : ∀ (n a : Nat) (st : Array Nat × Nat), st.snd ≤ a → st.fst.size + n ≤ limit →
    (forIn (List.range' a n) st (PySem.StrLaws.occBody s sub hi limit)).run.fst.size = st.fst.size + (List.range' a n).countP fun i => decide (i + sub.length ≤ hi ∧ Builtin.Str.subAt s sub i = true)
  | 0, a, st, _, _ => rfl
  | n + 1, a, st, hf, hl => by
    rw [List.range'_succ, List.forIn_cons, List.countP_cons]
    unfold PySem.StrLaws.occBody
    by_cases hc : a + sub.length ≤ hi ∧ Builtin.Str.subAt s sub a = true
    · have c : ((st.fst.size < limit ∧ st.snd ≤ a) ∧ a + sub.length ≤ hi) ∧ Builtin.Str.subAt s sub a = true := ⟨⟨⟨by omega, hf⟩, hc.1⟩, hc.2⟩
      rw [if_pos c]
      have ih := occ_many s sub h1 hi limit n (a + 1) (st.fst.push a, a + sub.length) (by show a + sub.length ≤ a + 1; omega) (by show (st.fst.push a).size + n ≤ limit; rw [Array.size_push]; omega)
      refine Eq.trans ih ?_
      show (st.fst.push a).size + _ = _
      rw [Array.size_push, decide_eq_true hc, if_pos rfl]
      omega
    · have c : ¬ (((st.fst.size < limit ∧ st.snd ≤ a) ∧ a + sub.length ≤ hi) ∧ Builtin.Str.subAt s sub a = true) := fun q => hc ⟨q.1.2, q.2⟩
      rw [if_neg c]
      have ih := occ_many s sub h1 hi limit n (a + 1) (st.fst, st.snd) (by show st.snd ≤ a + 1; omega) (by show st.fst.size + n ≤ limit; omega)
      refine Eq.trans ih ?_
      rw [decide_eq_false hc, if_neg (by decide)]
      rfl
theorem at_many (c : Nat) : ∀ (l pre : List Nat), (List.range' pre.length (l.length + 1)).countP (fun i => decide ((pre ++ l)[i]? = some c)) = l.count c
  | [], pre => by
    have e : (pre ++ [])[pre.length]? = none := by rw [List.append_nil]; exact List.getElem?_eq_none (Nat.le_refl _)
    show (List.range' pre.length 1).countP _ = _
    rw [List.range'_succ, List.countP_cons, e]
    rfl
  | d :: l, pre => by
    have ih := at_many c l (pre ++ [d])
    have e1 : (pre ++ [d]) ++ l = pre ++ d :: l := by rw [List.append_assoc]; rfl
    have e2 : (pre ++ [d]).length = pre.length + 1 := by rw [List.length_append]; rfl
    rw [e1, e2] at ih
    show (List.range' pre.length (l.length + 1 + 1)).countP _ = _
    rw [List.range'_succ, List.countP_cons, ih, List.count_cons]
    have e3 : (pre ++ d :: l)[pre.length]? = some d := by rw [List.getElem?_append_right (Nat.le_refl _), Nat.sub_self]; rfl
    rw [e3]
    by_cases q : d = c
    · subst q
      simp
    · have : ¬ (some d = some c) := fun e => q (Option.some.inj e)
      rw [decide_eq_false this]
      have : (d == c) = false := by simpa using q
      rw [this]
theorem count_one (z : Str) (c : Nat) : Txt.count z ⟨#[c]⟩ = ((bl z).count c : Nat) := by
  unfold Txt.count
  rw [PySem.StrLaws.occ_eq]
  have k := occ_many z ⟨#[c]⟩ rfl z.length (z.length + 1) (z.length + 1 - 0) 0 (#[], 0) (Nat.le_refl _) (by show 0 + _ ≤ _; omega)
  have e : (fun i => decide (i + (⟨#[c]⟩ : Str).length ≤ z.length ∧ Builtin.Str.subAt z ⟨#[c]⟩ i = true)) = fun i => decide (([] ++ bl z)[i]? = some c) := by
    funext i
    exact decide_eq_decide.mpr (PySem.StrLaws.subAt_one z c i)
  have m := at_many c (bl z) []
  have el : (bl z).length = z.length := rfl
  rw [e] at k
  rw [el] at m
  refine congrArg Nat.cast ?_
  refine Eq.trans (Eq.trans (Array.length_toList) k) ?_
  show 0 + _ = _
  rw [Nat.zero_add]
  exact m
theorem star_is (z : Str) : starN z = ((bl z).count 42 : Nat) := by
  unfold starN
  rw [lit_star]
  exact count_one z 42
end KP

set_option Elab.async false
set_option maxRecDepth 100000
set_option maxHeartbeats 4000000
set_option linter.all false
/-! Ours: a drawn pattern, with the count of its stars. -/
namespace KP
open PySem PySem.Spec PyProof.Rows L2 Gr GxR PM
def spSomePatS : Sp := fun vs H Q _ => ∃ (p q : Addr) (st tp : Int) (xs : List V), vs = [.ref p, .ref q, .int st, .int tp] ∧ Well H p ∧ H q = some (.lst xs) ∧ q ≠ p ∧ 0 < xs.length ∧ xs.length ≤ 1000 ∧ (∀ v ∈ xs, OneS v) ∧ 0 ≤ tp ∧ tp ≤ 10 ∧
  ∀ (z : Str) (H' : Hp), But H H' p → Well H' p → isPat z = true → starN z ≤ max 0 st → Q (.str z) H'
section
variable {P : Program} {w : World} {K : PySem.W.Frag} {mg : Str → Option Value} {base : Heap}
theorem ok_l_some_patternS (T : D K mg) : FnOk P w K mg base CX0 3 T.f_l_some_pattern T.d_l_some_pattern ["_law_well_here", "_law_signs_here", "_law_stars", "_law_top"] spSomePatS := by
  refine T.U_l_some_pattern.ok sc_somepat (fun vs H Q E h => ?_) (fun cdv A outer s H vs Q E hr h => ?_)
  · obtain ⟨p, q, st, tp, xs, rfl, _⟩ := h
    rfl
  · obtain ⟨p, q, st, tp, xs, rfl, hp, hq, nq, hx0, hx1, hx, t0, t1, k⟩ := h
    have nd := sc_somepat.nd
    have hu := hu_of hr
    have mz : 1000 ≤ sizeLine := by decide
    refine ⟨_, pss_cons (ps_par (i := 4) (j := 5) (by rfl) nd rfl rfl (by decide) rfl rfl (pa_cons pe_str (pa_cons (pv 2) pa_nil)) (by rfl))
      (pss_cons (ps_for PassesOwn.never rfl (pi_range1 rfl T.range (pa_cons (pe_call (ok_l_pick T) (hr.mono (by decide)) rfl T.g_l_pick T.U_l_pick.kp T.b_l_pick .nil pass0 (pa_cons (pv 0) (pa_cons (pe_op op_add (pv 3) pe_int) pa_nil))) pa_nil)) (pg_name (i := 6) nd rfl (.inl rfl))
        (pss_one (ps_if (PW.pt (pw_and (pt_cmpR op_gt (pv 5) pe_int (nomark _)) (pw_and1 (pt_cmpR op_eq (pe_call (ok_l_pick T) (hr.mono (by decide)) rfl T.g_l_pick T.U_l_pick.kp T.b_l_pick .nil pass0 (pa_cons (pv 0) (pa_cons pe_int pa_nil))) pe_int (nomark _)))))
          (pss_one (ps_par (i := 4) (j := 5) (by rfl) nd rfl rfl (by decide) rfl rfl (pa_cons (pe_op op_add_str (pv 4) pe_str) (pa_cons (pe_op op_sub (pv 5) pe_int) pa_nil)) (by rfl)))
          (pss_one (ps_set (i := 4) nd rfl (.inl rfl) (pe_op op_add_str (pv 4) (pe_call (ok_l_one T) hr rfl T.g_l_one T.U_l_one.kp T.b_l_one .nil pass0 (pa_cons (pv 0) (pa_cons (pv 1) pa_nil)))))))))
      (pss_one (ps_ret (pe_ifExp (pt_cmpR op_eq (pe_call (ok_l_pick T) (hr.mono (by decide)) rfl T.g_l_pick T.U_l_pick.kp T.b_l_pick .nil pass0 (pa_cons (pv 0) (pa_cons pe_int pa_nil))) pe_int (nomark _)) (pe_op op_add_str (pv 4) pe_str) (pv 4))))), ?_⟩
    have g0 : Gd (bl ("/" : Str)) := by
      rw [lit_slash]
      exact ⟨rfl, fun c hc => .inr (by rw [List.mem_singleton.mp hc]; exact slash_in)⟩
    have c0 : (((bl ("/" : Str)).count 42 : Nat) : Int) + max 0 st ≤ max 0 st := by
      rw [lit_slash]
      show ((([47] : List Nat).count 42 : Nat) : Int) + _ ≤ _
      rw [show ([47] : List Nat).count 42 = 0 from rfl]
      omega
    refine ⟨_, rfl, _, _, rfl, ?_⟩
    refine ⟨_, rfl, _, rfl, _, _, rfl, rfl, p, _, rfl, hp, by omega, by omega, fun n H1 n0 n1 w1 b1 => ?_⟩
    refine ⟨_, rfl, by omega, by omega, for_range (n := _) (fun i σ H2 => But H H2 p ∧ Well H2 p ∧ ∃ (t : Str) (le : Int) (v6 : Option V), σ = [some (.ref p), some (.ref q), some (.int st), some (.int tp), some (.str t), some (.int le), v6] ∧ Gd (bl t) ∧ t.length = i + 1 ∧ (((bl t).count 42 : Nat) : Int) + max 0 le ≤ max 0 st)
      ⟨b1, w1, "/", st, none, rfl, g0, rfl, c0⟩ ?_ ?_⟩
    · rintro i σ H2 hi ⟨b2, w2, t, le, v6, rfl, gt, lt, ct⟩
      have hi10 : i < 10 := by omega
      have app : ∀ (u : Str) (c : Nat), u = ⟨#[c]⟩ → (c = 42 ∨ c ∈ SG) → Gd (bl (t ++ u)) ∧ (t ++ u).length = i + 1 + 1 ∧ (bl (t ++ u)).count 42 = (bl t).count 42 + (if c = 42 then 1 else 0) := fun u c e hc => by
        subst e
        have e1 : bl (t ++ (⟨#[c]⟩ : Str)) = bl t ++ [c] := tx_app _ _
        refine ⟨by rw [e1]; exact gt.snoc hc, ?_⟩
        refine ⟨?_, ?_⟩
        · rw [tx_len]
          show (bl (t ++ (⟨#[c]⟩ : Str))).length = _
          rw [e1, List.length_append]
          show t.length + 1 = _
          omega
        · rw [e1, List.count_append, List.count_singleton]
          by_cases q : c = 42
          · subst q
            rfl
          · rw [if_neg q, if_neg (by simpa using q)]
      refine ⟨_, rfl, _, _, rfl, rfl, _, rfl, ?_⟩
      refine ite2 (fun hle => ?_) (fun _ => ?_)
      · refine ⟨_, rfl, p, 3, rfl, w2, by decide, by decide, fun m H3 m0 m1 w3 b3 => ⟨rfl, _, rfl, ite2 (fun _ => ?_) (fun _ => ?_)⟩⟩
        · refine ⟨_, rfl, _, _, rfl, rfl, ?_, _, rfl, _, _, rfl, rfl, _, _, rfl, ?_⟩
          · show t.length + 1 ≤ sizeLine
            omega
          · obtain ⟨g2, l2, c2⟩ := app "*" 42 lit_star (.inl rfl)
            exact ⟨b2.trans b3, w3, _, _, _, rfl, g2, l2, by have hl : 0 < le := of_decide_eq_true hle; rw [c2, if_pos rfl]; show (((bl t).count 42 + 1 : Nat) : Int) + max 0 (le - 1) ≤ max 0 st; omega⟩
        · refine ⟨_, rfl, _, rfl, _, rfl, p, q, xs, rfl, w3, (b2.trans b3) _ _ hq nq, nq, hx0, hx1, fun j v H4 hv w4 b4 => ?_⟩
          obtain ⟨c, hc, rfl⟩ := hx v (List.mem_of_getElem? hv)
          refine ⟨_, _, rfl, rfl, ?_, ?_⟩
          · show t.length + 1 ≤ sizeLine
            omega
          · obtain ⟨g2, l2, c2⟩ := app _ c rfl (.inr hc)
            exact ⟨b2.trans (b3.trans b4), w4, _, _, _, rfl, g2, l2, by rw [c2, if_neg (fun (e : c = 42) => star_out (e ▸ hc))]; exact ct⟩
      · refine ⟨_, rfl, _, rfl, _, rfl, p, q, xs, rfl, w2, b2 _ _ hq nq, nq, hx0, hx1, fun j v H4 hv w4 b4 => ?_⟩
        obtain ⟨c, hc, rfl⟩ := hx v (List.mem_of_getElem? hv)
        refine ⟨_, _, rfl, rfl, ?_, ?_⟩
        · show t.length + 1 ≤ sizeLine
          omega
        · obtain ⟨g2, l2, c2⟩ := app _ c rfl (.inr hc)
          exact ⟨b2.trans b4, w4, _, _, _, rfl, g2, l2, by rw [c2, if_neg (fun (e : c = 42) => star_out (e ▸ hc))]; exact ct⟩
    · rintro σ H2 ⟨b2, w2, t, le, v6, rfl, gt, lt, ct⟩
      have ln : t.length ≤ 11 := by omega
      have dl : bl (t ++ ("$" : Str)) = bl t ++ [36] := by rw [lit_dollar]; exact tx_app _ _
      refine ⟨_, rfl, p, 3, rfl, w2, by decide, by decide, fun m H3 m0 m1 w3 b3 => ⟨rfl, _, rfl, ite2 (fun _ => ?_) (fun _ => ?_)⟩⟩
      · refine ⟨_, rfl, _, _, rfl, rfl, ?_, k _ H3 (b2.trans b3) w3 (isPat_dollar gt ln) (by rw [star_is, dl, List.count_append]; show (((bl t).count 42 + 0 : Nat) : Int) ≤ _; omega)⟩
        show t.length + 1 ≤ sizeLine
        omega
      · exact ⟨_, rfl, k _ H3 (b2.trans b3) w3 (isPat_good gt (by omega)) (by rw [star_is]; omega)⟩
end
end KP

set_option Elab.async false
set_option maxRecDepth 100000
set_option maxHeartbeats 4000000
set_option linter.all false
/-! Ours: rows that are right, made and put behind others. -/
namespace KP
open PySem PySem.Spec PyProof.Rows L2 Gr GxR PM
theorem star_nn : ∀ l : List (Str × Str), 0 ≤ (l.map fun r => starN r.2).sum
  | [] => Int.le_refl 0
  | a :: l => by
    rw [List.map_cons, List.sum_cons]
    have : 0 ≤ starN a.2 := Int.natCast_nonneg _
    have := star_nn l
    omega
theorem star_take (l : List (Str × Str)) (j : Nat) : ((l.take j).map fun r => starN r.2).sum ≤ (l.map fun r => starN r.2).sum := by
  have e : (l.map fun r => starN r.2).sum = ((l.take j).map fun r => starN r.2).sum + ((l.drop j).map fun r => starN r.2).sum := by
    rw [← List.sum_append, ← List.map_append, List.take_append_drop]
  have := star_nn (l.drop j)
  omega
theorem RowsR.of {rows : List (Str × Str)} (hl : rows.length ≤ 6) (hw : ∀ r ∈ rows, wordB r.1 = true) (hp : ∀ r ∈ rows, isPat r.2 = true) (hs : (rows.map fun r => starN r.2).sum ≤ 4) : RowsR rows :=
  ⟨hl, hw, hp, fun j => Int.le_trans (star_take rows j) hs⟩
theorem RowsR.total {rows : List (Str × Str)} (R : RowsR rows) : (rows.map fun r => starN r.2).sum ≤ 4 := by
  have h := R.star rows.length
  rw [List.take_length] at h
  exact h
/-- a row without a star put behind the others -/
theorem RowsR.more {rows : List (Str × Str)} (R : RowsR rows) (hl : rows.length < 6) {a : Str × Str} (hw : wordB a.1 = true) (hp : isPat a.2 = true) (hs : starN a.2 = 0) : RowsR (rows ++ [a]) := by
  refine .of (by rw [List.length_append]; exact hl) (fun r h => ?_) (fun r h => ?_) ?_
  · rcases List.mem_append.mp h with q | q
    · exact R.word r q
    · rw [List.mem_singleton.mp q]; exact hw
  · rcases List.mem_append.mp h with q | q
    · exact R.pat r q
    · rw [List.mem_singleton.mp q]; exact hp
  · rw [List.map_append, List.sum_append]
    have := R.total
    show _ + (starN a.2 + 0) ≤ 4
    omega
/-- at most four rows of at most a star each -/
theorem star_four (l : List (Str × Str)) (h : ∀ r ∈ l, starN r.2 ≤ 1) : (l.map fun r => starN r.2).sum ≤ (l.length : Nat) := by
  induction l with
  | nil => exact Int.le_refl 0
  | cons a l ih =>
    rw [List.map_cons, List.sum_cons, List.length_cons]
    have h1 := h a List.mem_cons_self
    have h2 := ih fun r hr => h r (List.mem_cons_of_mem _ hr)
    omega
theorem RowsR.four {rows : List (Str × Str)} (hw : ∀ r ∈ rows, wordB r.1 = true) (hp : ∀ r ∈ rows, isPat r.2 = true) (hs : ∀ r ∈ rows, starN r.2 ≤ 1) : RowsR (rows.take 4) := by
  have l4 : (rows.take 4).length ≤ 4 := by rw [List.length_take]; omega
  refine .of (by omega) (fun r h => hw r (List.mem_of_mem_take h)) (fun r h => hp r (List.mem_of_mem_take h)) ?_
  have := star_four (rows.take 4) fun r h => hs r (List.mem_of_mem_take h)
  omega
theorem dash_in : 45 ∈ SG := by decide +kernel
theorem PP.no42 {l : List Nat} (h : ∀ c ∈ l, c ∈ SG) : l.count 42 = 0 :=
  List.count_eq_zero.mpr fun hm => star_out (h 42 hm)
theorem PP.gd {l : List Nat} (h : PP l) : Gd l := ⟨h.1, fun c hc => .inr (h.2 c hc)⟩
theorem PP.take {l : List Nat} (h : PP l) (n : Nat) : PP (l.take (n + 1)) := by
  refine ⟨?_, fun c hc => h.2 c (List.mem_of_mem_take hc)⟩
  rw [List.getElem?_take_of_lt (Nat.succ_pos n)]
  exact h.1
theorem lit_dd : ("-$" : Str) = ⟨#[45, 36]⟩ := by decide +kernel
/-- the row more: a path's first five signs, a dash and the mark of an end -/
theorem more_pat {r : Str} (h : PP (bl r)) : isPat (cutS r none (some 5) ++ ("-$" : Str)) = true ∧ starN (cutS r none (some 5) ++ ("-$" : Str)) = 0 := by
  have e5 : bl (cutS r none (some 5)) = (bl r).take 5 := cut_to r 5
  have e : bl (cutS r none (some 5) ++ ("-$" : Str)) = ((bl r).take 5 ++ [45]) ++ [36] := by
    rw [lit_dd, ← e5, List.append_assoc]
    exact tx_app _ _
  have hp : PP ((bl r).take 5 ++ [45]) := (h.take 4).snoc dash_in
  have ll : ((bl r).take 5).length ≤ 5 := by rw [List.length_take]; omega
  have el : (cutS r none (some 5) ++ ("-$" : Str)).length = ((bl r).take 5).length + 2 := by
    rw [tx_len]
    show (bl (cutS r none (some 5) ++ ("-$" : Str))).length = _
    rw [e, List.length_append, List.length_append]
    rfl
  refine ⟨isPat_mk (by omega) (by omega) ?_, ?_⟩
  · have : innerOf (cutS r none (some 5) ++ ("-$" : Str)) = (bl r).take 5 ++ [45] := by
      unfold innerOf
      show (if (bl (cutS r none (some 5) ++ ("-$" : Str))).getLast? == some 36 then (bl (cutS r none (some 5) ++ ("-$" : Str))).dropLast else _) = _
      rw [e]
      simp
    rw [this]
    exact hp.gd
  · rw [star_is, e, List.count_append, PP.no42 hp.2]
    rfl
/-- the kin of a text of three signs -/
def Kin (z : Str) : Prop := isPat z = true ∧ starN z ≤ 1
theorem kin_text {t : Str} (h : PP (bl t)) (l : t.length ≤ 11) : Kin t := by
  refine ⟨isPat_good h.gd (by omega), ?_⟩
  rw [star_is, PP.no42 h.2]
  decide
theorem kin_dollar {t : Str} (h : PP (bl t)) (l : t.length ≤ 11) : Kin (t ++ ("$" : Str)) := by
  refine ⟨isPat_dollar h.gd l, ?_⟩
  have dl : bl (t ++ ("$" : Str)) = bl t ++ [36] := by rw [lit_dollar]; exact tx_app _ _
  rw [star_is, dl, List.count_append, PP.no42 h.2]
  decide
theorem kin_two {t : Str} (h : PP (bl t)) : Kin (cutS t none (some 2)) := by
  have e2 : bl (cutS t none (some 2)) = (bl t).take 2 := cut_to t 2
  have ll : (cutS t none (some 2)).length ≤ 2 := by
    rw [tx_len]
    show (bl (cutS t none (some 2))).length ≤ 2
    rw [e2, List.length_take]
    omega
  exact kin_text (by rw [e2]; exact h.take 1) (by omega)
theorem kin_star {t : Str} (h : PP (bl t)) : Kin (cutS t none (some 2) ++ ("*" : Str)) := by
  have e2 : bl (cutS t none (some 2)) = (bl t).take 2 := cut_to t 2
  have e : bl (cutS t none (some 2) ++ ("*" : Str)) = (bl t).take 2 ++ [42] := by
    rw [lit_star, ← e2]
    exact tx_app _ _
  have ll : (cutS t none (some 2) ++ ("*" : Str)).length ≤ 3 := by
    rw [tx_len]
    show (bl (cutS t none (some 2) ++ ("*" : Str))).length ≤ 3
    rw [e, List.length_append, List.length_take]
    show _ + 1 ≤ 3
    omega
  refine ⟨isPat_good (by rw [e]; exact (h.take 1).gd.snoc (.inl rfl)) (by omega), ?_⟩
  rw [star_is, e, List.count_append, PP.no42 (h.take 1).2]
  decide
theorem kin_slash : Kin ("/" : Str) := by
  refine kin_text ?_ (by decide)
  rw [lit_slash]
  exact ⟨rfl, fun c hc => by rw [List.mem_singleton.mp hc]; exact slash_in⟩
end KP

set_option Elab.async false
set_option maxRecDepth 100000
set_option maxHeartbeats 4000000
set_option linter.all false
/-! Ours: drawn rows that are right. -/
namespace KP
open PySem PySem.Spec PyProof.Rows L2 Gr GxR PM
theorem well_ne {H : Hp} {p q : Addr} (w : Well H p) (h : H q = none) : q ≠ p := fun z => by
  obtain ⟨_, _, _, e⟩ := w
  rw [z, e] at h
  cases h
theorem Well.same {H H1 : Hp} {p : Addr} (w : Well H p) (s : Same H H1) : Well H1 p := let ⟨a, b, c, e⟩ := w; ⟨a, b, c, s _ _ e⟩
theorem Well.put {H : Hp} {p q : Addr} {o : HO} (w : Well H p) (n : q ≠ p) : Well (upd H q o) p := let ⟨a, b, c, e⟩ := w; ⟨a, b, c, (upd_ne (Ne.symm n)).trans e⟩
theorem But.same' {H H1 : Hp} {p : Addr} (s : Same H H1) : But H H1 p := fun b o e _ => s b o e
theorem But.put {H H1 : Hp} {p D : Addr} {o : HO} (b : But H H1 p) (n : H D = none) : But H (upd H1 D o) p := fun x o' e nx => by
  rw [upd_ne (ne_of_none e n)]
  exact b x o' e nx
theorem hide_put {H H1 : Hp} {p D : Addr} {o : HO} (b : But H H1 p) : Same (hide H [p, D]) (hide (upd H1 D o) [p, D]) := fun a x e => by
  unfold hide at e ⊢
  split at e
  · cases e
  · rename_i z
    rw [if_neg z, upd_ne (fun q => z (by rw [q]; simp))]
    exact b a x e fun q => z (by rw [q]; simp)
theorem hide_one {H : Hp} {p D : Addr} : Same (hide H [p, D]) (hide H [p]) := fun a x e => by
  unfold hide at e ⊢
  split at e
  · cases e
  · rename_i z
    rw [if_neg fun q => z (by rw [List.mem_singleton.mp q]; simp)]
    exact e
theorem hide_but {H H1 : Hp} {p : Addr} (b : But H H1 p) : Same (hide H [p]) (hide H1 [p]) := fun a x e => by
  unfold hide at e ⊢
  split at e
  · cases e
  · rename_i z
    rw [if_neg z]
    exact b a x e fun q => z (by rw [q]; simp)
theorem hide_at2 {H : Hp} {p D a : Addr} {o : HO} (e : H a = some o) (h1 : a ≠ p) (h2 : a ≠ D) : hide H [p, D] a = some o := hide_at e (by simp [h1, h2])
theorem hide_at1 {H : Hp} {p a : Addr} {o : HO} (e : H a = some o) (h1 : a ≠ p) : hide H [p] a = some o := hide_at e (by simp [h1])
def DrawnR (H : Hp) (p : Addr) (Q : VK) : Prop := ∀ (a : Addr) (ys : List V) (rows : List (Str × Str)) (H' : Hp), But H H' p → Well H' p → a ≠ p → H' a = some (.tup ys) → OdAll (hide H' [p]) ys (rows.map rowP) → RowsR rows → Q (.ref a) H'
def spSomeRowsR : Sp := fun vs H Q _ => ∃ (p sg : Addr) (xs : List V) (tp : Int), vs = [.ref p, .ref sg, .int tp] ∧ 1 ≤ tp ∧ tp ≤ 6 ∧ Well H p ∧ H sg = some (.lst xs) ∧ sg ≠ p ∧ 0 < xs.length ∧ xs.length ≤ 1000 ∧ (∀ v ∈ xs, OneS v) ∧ DrawnR H p Q
section
variable {P : Program} {w : World} {K : PySem.W.Frag} {mg : Str → Option Value} {base : Heap}
theorem sc_srows : FnScope ["_law_well_here", "_law_signs_here", "_law_top", "_law_listed", "_law_left", "_law_turn", "_law_shape"] ["_law_well_here", "_law_signs_here", "_law_top"] (defScope s_l_some_rows) := ⟨rfl, rfl, rfl, by decide +kernel, rfl, by decide +kernel, by decide +kernel⟩
theorem ok_srows (T : D K mg) : FnOk P w K mg base CX0 4 T.f_l_some_rows T.d_l_some_rows ["_law_well_here", "_law_signs_here", "_law_top"] spSomeRowsR := by
  refine T.U_l_some_rows.ok sc_srows (fun vs H Q E h => ?_) (fun cdv A outer s H vs Q E hr h => ?_)
  · obtain ⟨p, sg, xs, tp, rfl, _⟩ := h
    rfl
  · obtain ⟨p, sg, xs, tp, rfl, tp1, tp6, hp, hsg, nsg, hx0, hx1, hx, k⟩ := h
    have nd := sc_srows.nd
    have mz : 5000 ≤ sizeLine := by decide
    refine ⟨_, pss_cons (ps_par (i := 3) (j := 4) (by rfl) nd rfl rfl (by decide) rfl rfl (pa_cons (pe_lst pa_nil) (pa_cons pe_int pa_nil)) (by rfl))
      (pss_cons (ps_for PassesOwn.never rfl (pi_range1 rfl T.range (pa_cons (pe_call (ok_l_one T) (hr.mono (by decide)) rfl T.g_l_one T.U_l_one.kp T.b_l_one .nil pass0 (pa_cons (pv 0) (pa_cons (pe_op op_cat (pe_lst (pa_cons pe_int (pa_cons pe_int pa_nil))) (pe_op op_rep (pe_listRg rfl (by rfl) T.list (prg_2 (by rfl) T.range pe_int (pe_op op_add (pv 2) pe_int))) pe_int)) pa_nil))) pa_nil)) (pg_name (i := 5) nd rfl (.inl rfl))
        (pss_cons (ps_set (i := 6) nd rfl (.inl rfl) (pe_call (ok_l_some_patternS T) hr rfl T.g_l_some_pattern T.U_l_some_pattern.kp T.b_l_some_pattern .nil pass0 (pa_cons (pv 0) (pa_cons (pv 1) (pa_cons (pe_callB (call_min2 rfl) (by rfl) T.min boot_min (pa_cons (pv 4) (pa_cons pe_int pa_nil))) (pa_cons pe_int pa_nil))))))
        (pss_cons (ps_set (i := 4) nd rfl (.inl rfl) (pe_op op_sub (pv 4) (pe_m1 PySem.F.slot_str_count PySem.F.type_str_count mt_count (pv 6) pe_str)))
        (pss_one (ps_expr (pe_bm PySem.F.plainAttrs_list PySem.F.slot_list_append PySem.F.type_list_append mt_append (pv 3) (pa_cons (pe_tup (pa_cons (pe_call (ok_l_one T) (hr.mono (by decide)) rfl T.g_l_one T.U_l_one.kp T.b_l_one .nil pass0 (pa_cons (pv 0) (pa_cons (pe_lst (pa_cons pe_str (pa_cons pe_str pa_nil))) pa_nil))) (pa_cons (pv 6) pa_nil))) pa_nil)))))))
      (pss_one (ps_ret (pe_callTy call_tuple_of (by rfl) T.tuple (by decide +kernel) (pa_cons (pv 3) pa_nil))))), ?_⟩
    refine ⟨by show 0 ≤ sizeLine; omega, fun D hD => ⟨_, _, rfl, ?_⟩⟩
    have sD := same_upd (o := HO.lst []) hD
    have nDp := well_ne hp hD
    have eD : upd H D (.lst []) D = some (.lst []) := upd_same
    refine ⟨_, rfl, by show 2 ≤ sizeLine; omega, fun l1 h1 => ⟨_, rfl, _, _, rfl, rfl, 1, tp + 1, rfl, rfl, RgOk.of_le (by omega) (by omega) (by omega) (by omega), fun l2 h2 => ⟨l2, 2, _, rfl, rfl, upd_same, by decide, by decide, by rw [rgV_length]; show (tp + 1 - 1).toNat * 2 ≤ sizeLine; omega, fun l3 h3 => ?_⟩⟩⟩
    have s1 := same_upd (o := HO.lst [V.int 0, V.int 1]) h1
    have s2 := same_upd (o := HO.lst (rgV 1 (tp + 1))) h2
    have s3 := same_upd (o := HO.lst (List.replicate (2 : Int).toNat (rgV 1 (tp + 1))).flatten) h3
    have e1 := (s2.trans s3) _ _ (upd_same (H := upd H D (.lst [])) (a := l1) (o := HO.lst [V.int 0, V.int 1]))
    have small : ∀ v ∈ [V.int 0, V.int 1] ++ (List.replicate (2 : Int).toNat (rgV 1 (tp + 1))).flatten, ∃ n : Int, v = .int n ∧ 0 ≤ n ∧ n ≤ 6 := fun v hv => by
      rcases List.mem_append.mp hv with z | z
      · simp only [List.mem_cons, List.not_mem_nil, or_false] at z
        rcases z with rfl | rfl <;> exact ⟨_, rfl, by decide, by decide⟩
      · obtain ⟨l, hl, hv2⟩ := List.mem_flatten.mp z
        rw [(List.mem_replicate.mp hl).2] at hv2
        obtain ⟨i, hi, rfl⟩ := List.mem_map.mp hv2
        have hi := List.mem_range.mp hi
        exact ⟨_, rfl, by omega, by omega⟩
    have ln : ([V.int 0, V.int 1] ++ (List.replicate (2 : Int).toNat (rgV 1 (tp + 1))).flatten).length ≤ 14 ∧ 0 < ([V.int 0, V.int 1] ++ (List.replicate (2 : Int).toNat (rgV 1 (tp + 1))).flatten).length := by
      have e2 : (List.replicate (2 : Int).toNat (rgV 1 (tp + 1))).flatten = rgV 1 (tp + 1) ++ (rgV 1 (tp + 1) ++ []) := rfl
      rw [e2, List.length_append, List.length_append, List.length_append, rgV_length]
      show 2 + ((tp + 1 - 1).toNat + ((tp + 1 - 1).toNat + 0)) ≤ 14 ∧ 0 < 2 + ((tp + 1 - 1).toNat + ((tp + 1 - 1).toNat + 0))
      omega
    generalize hrep : (List.replicate (2 : Int).toNat (rgV 1 (tp + 1))).flatten = rp at *
    refine ⟨l1, l3, _, _, rfl, rfl, e1, upd_same, by have l1 := ln.1; rw [List.length_append] at l1; have l2 : 2 + rp.length ≤ 14 := l1; show 2 + rp.length ≤ sizeLine; omega, fun l4 h4 => ?_⟩
    have s4 := same_upd (o := HO.lst ([V.int 0, V.int 1] ++ rp)) h4
    have s14 := s1.trans (s2.trans (s3.trans s4))
    have w0 := (hp.same sD).same (s1.trans (s2.trans s3))
    refine ⟨p, l4, _, rfl, w0.same s4, upd_same, well_ne w0 h4, ln.2, Nat.le_trans ln.1 (by decide), fun i v H5 hv w5 b5 => ?_⟩
    obtain ⟨n, rfl, n0, n6⟩ := small v (List.mem_of_getElem? hv)
    have b05 : But (upd H D (.lst [])) H5 p := (But.same' s14).trans b5
    have e5 := b05 _ _ eD nDp
    have c5 : But H H5 p := (But.same' sD).trans b05
    clear s1 s2 s3 s4 s14 e1 hv
    refine ⟨n, rfl, by omega, by omega, for_range (fun i σ Hx => But H Hx p ∧ Well Hx p ∧ ∃ (vs : List V) (rows : List (Str × Str)) (le : Int) (v5 v6 : Option V), σ = [some (.ref p), some (.ref sg), some (.int tp), some (.ref D), some (.int le), v5, v6] ∧ Hx D = some (.lst vs) ∧ vs.length = i ∧ OdAll (hide Hx [p, D]) vs (rows.map rowP) ∧ (∀ r ∈ rows, wordB r.1 = true) ∧ (∀ r ∈ rows, isPat r.2 = true) ∧ (rows.map fun r => starN r.2).sum = 4 - le ∧ 0 ≤ le)
      ⟨c5, w5, [], [], 4, none, none, rfl, e5, rfl, .nil, (fun _ h => nomatch h), (fun _ h => nomatch h), rfl, by decide⟩ ?_ ?_⟩
    · rintro i σ Hx hi ⟨bx, wx, vs, rows, le, v5, v6, rfl, ev, lv, ov, okw, okp, oks, le0⟩
      have esg : Hx sg = some (.lst xs) := bx _ _ hsg nsg
      refine ⟨_, rfl, _, rfl, _, rfl, _, _, rfl, p, sg, _, 3, xs, rfl, wx, esg, nsg, hx0, hx1, hx, by decide, by decide, fun z H6 b6 w6 hz hst => ?_⟩
      refine gn ?_
      dsimp only
      refine ⟨_, rfl, _, rfl, ⟨z, rfl⟩, z, "*", rfl, rfl, _, _, rfl, rfl, ?_⟩
      refine gn ?_
      dsimp only
      have e6 := b6 _ _ ev nDp
      refine ⟨_, rfl, .inl ⟨rfl, _, SqL.of e6⟩, ?_⟩
      refine ⟨_, rfl, by show 2 ≤ sizeLine; omega, fun q hq => ?_⟩
      have sq := same_upd (o := HO.lst [V.str "bar", V.str "let"]) hq
      refine ⟨p, q, _, rfl, w6.same sq, upd_same, well_ne w6 hq, by decide, by decide, fun j y H7 hy w7 b7 => ?_⟩
      obtain ⟨wd, rfl, hwd⟩ : ∃ wd : Str, y = .str wd ∧ wordB wd = true := by
        have hm := List.mem_of_getElem? hy
        simp only [List.mem_cons, List.not_mem_nil, or_false] at hm
        rcases hm with rfl | rfl <;> exact ⟨_, rfl, by decide +kernel⟩
      refine ⟨_, rfl, by show 2 ≤ sizeLine; omega, fun t ht => ?_⟩
      have b67 := (But.same' sq).trans b7
      have e7 := b67 _ _ e6 nDp
      have st := same_upd (o := HO.tup [V.str wd, V.str z]) ht
      have ntp := well_ne w7 ht
      have ntD : t ≠ D := fun q => by rw [q, e7] at ht; cases ht
      have bxt := b6.trans (b67.trans (But.same' st))
      refine ⟨D, vs, .ref t, rfl, rfl, st _ _ e7, by omega, ?_⟩
      refine ⟨(bx.trans bxt).put hD, (w7.same st).put nDp, _, rows ++ [(wd, z)], _, _, _, rfl, upd_same, by rw [List.length_append, lv]; rfl, by rw [List.map_append]; exact (ov.same (hide_put bxt)).app (.cons (.tup (hide_at2 ((upd_ne ntD).trans upd_same) ntp ntD) (.cons (.str _) (.cons (.str _) .nil))) .nil), fun d hd => ?_, fun d hd => ?_, ?_, ?_⟩
      · rcases List.mem_append.mp hd with q | q
        · exact okw d q
        · rw [List.mem_singleton.mp q]; exact hwd
      · rcases List.mem_append.mp hd with q | q
        · exact okp d q
        · rw [List.mem_singleton.mp q]; exact hz
      · rw [List.map_append, List.sum_append, oks]
        show _ + (starN z + 0) = 4 - (le - starN z)
        omega
      · show 0 ≤ le - starN z
        have hst' : starN z ≤ max 0 (if 2 < le then 2 else le) := hst
        split at hst' <;> omega
    · rintro σ Hx ⟨bx, wx, vs, rows, le, v5, v6, rfl, ev, lv, ov, okw, okp, oks, le0⟩
      refine ⟨_, rfl, D, vs, rfl, .inl ⟨SqL.of ev, fun R hR => ?_⟩⟩
      have sR := same_upd (o := HO.tup vs) hR
      have lr : rows.length = vs.length := by have := ov.len; rw [List.length_map] at this; omega
      exact k _ vs rows _ (bx.trans (But.same' sR)) (wx.same sR) (well_ne wx hR) upd_same ((ov.same hide_one).same (same_hide _ sR)) (.of (by omega) okw okp (by omega))
end
end KP

set_option Elab.async false
set_option maxRecDepth 100000
set_option maxHeartbeats 4000000
set_option linter.all false
/-! Ours: quiet defs: whole numbers, bounds, rows, pairs of limits. -/
namespace KP
open PySem PySem.Spec PyProof.Rows L2 Gr GxR
def limD : PyData → Bool
  | .tuple [a, b] => betwD a 1 6 && betwD b 1 12
  | _ => false
theorem QF.mono {P : Program} {w : World} {K : PySem.W.Frag} {mg : Str → Option Value} {base : Heap} {j k : Nat} {f : Addr} {fd : FuncData} {ps : List Str} {pre : List PyData → PyData → Prop} (F : QF P w K mg base j f fd ps pre) (h : j ≤ k) : QF P w K mg base k f fd ps pre :=
  ⟨F.len, fun B z args us ds d hr => F.run B z args us ds d (hr.mono h)⟩
section
variable {P : Program} {w : World} {K : PySem.W.Frag} {mg : Str → Option Value} {base : Heap}
theorem sc_whole : FnScope ["value"] ["value"] (defScope s_is_whole) := ⟨rfl, rfl, rfl, by decide +kernel, rfl, by decide +kernel, by decide +kernel⟩
theorem qf_whole (M : Mod K mg base) (T : D K mg) : QF P w K mg base 1 T.f_is_whole T.d_is_whole ["value"] (fun ds d => ∃ x, ds = [x] ∧ d = .bool (wholeD x)) := by
  refine qf_of M T.U_is_whole sc_whole (by decide +kernel) (by with_unfolding_all rfl) (fun ds d h => ?_) (fun env m h0 us ds d hsc C hm hv h => ?_)
  · obtain ⟨x, rfl, _⟩ := h
    rfl
  · obtain ⟨x, rfl, rfl⟩ := h
    match us, hv with
    | [u], .cons r .nil =>
      have n0 := hm 0 "value" u rfl rfl
      have e : (x.isInt && !x.isBool) = wholeD x := by cases x <;> rfl
      rw [← e]
      exact qe_and (qe_isi C (qe_name C (by rw [hsc]; decide +kernel) n0 r) (by rw [hsc]; decide +kernel) T.isinstance (by rw [hsc]; decide +kernel) T.int (by decide +kernel) (by decide) (by decide) (fun r h => PySem.W.isinstance_int_data r h))
        (fun _ => qe_one (qe_not (qe_isi C (qe_name C (by rw [hsc]; decide +kernel) n0 r) (by rw [hsc]; decide +kernel) T.isinstance (by rw [hsc]; decide +kernel) T.bool (by decide +kernel) (by decide) (by decide) (fun r h => PySem.W.isinstance_bool_data r h))))
theorem sc_betw : FnScope ["value", "low", "high"] ["value", "low", "high"] (defScope s_is_between) := ⟨rfl, rfl, rfl, by decide +kernel, rfl, by decide +kernel, by decide +kernel⟩
theorem qf_betw (M : Mod K mg base) (T : D K mg) : QF P w K mg base 2 T.f_is_between T.d_is_between ["value", "low", "high"] (fun ds d => ∃ x lo hi, ds = [x, .int lo, .int hi] ∧ d = .bool (betwD x lo hi)) := by
  refine qf_of M T.U_is_between sc_betw (by decide +kernel) (by with_unfolding_all rfl) (fun ds d h => ?_) (fun env m h0 us ds d hsc C hm hv h => ?_)
  · obtain ⟨x, lo, hi, rfl, _⟩ := h
    rfl
  · obtain ⟨x, lo, hi, rfl, rfl⟩ := h
    match us, hv with
    | [u, a, b], .cons r (.cons ra (.cons rb .nil)) =>
      have n0 := hm 0 "value" u rfl rfl
      have n1 := hm 1 "low" a rfl rfl
      have n2 := hm 2 "high" b rfl rfl
      have e : (wholeD x && betwD x lo hi) = betwD x lo hi := by cases x <;> rfl
      rw [← e]
      refine qe_and (qe_call C (qf_whole M T) (by rw [hsc]; decide +kernel) T.g_is_whole T.U_is_whole.kp T.b_is_whole (qes_cons (qe_name C (by rw [hsc]; decide +kernel) n0 r) qes_nil) ⟨x, rfl, rfl⟩) (fun hw => qe_one ?_)
      cases x with
      | int n => exact qe_chain (qe_name C (by rw [hsc]; decide +kernel) n1 ra) (qe_name C (by rw [hsc]; decide +kernel) n0 r) (qe_name C (by rw [hsc]; decide +kernel) n2 rb) (f := fun i j => decide (i ≤ j)) (g := fun i j => decide (i ≤ j)) (fun q => le_int q) (fun q => le_int q)
      | _ => cases hw
theorem sc_row : FnScope ["value", "low", "high"] ["value", "low", "high"] (defScope s_is_tuple) := ⟨rfl, rfl, rfl, by decide +kernel, rfl, by decide +kernel, by decide +kernel⟩
theorem qf_row (M : Mod K mg base) (T : D K mg) : QF P w K mg base 1 T.f_is_tuple T.d_is_tuple ["value", "low", "high"] (fun ds d => ∃ x lo hi, ds = [x, .int lo, .int hi] ∧ szD x ∧ d = .bool (rowD x lo hi)) := by
  refine qf_of M T.U_is_tuple sc_row (by decide +kernel) (by with_unfolding_all rfl) (fun ds d h => ?_) (fun env m h0 us ds d hsc C hm hv h => ?_)
  · obtain ⟨x, lo, hi, rfl, _⟩ := h
    rfl
  · obtain ⟨x, lo, hi, rfl, sz, rfl⟩ := h
    match us, hv with
    | [u, a, b], .cons r (.cons ra (.cons rb .nil)) =>
      have n0 := hm 0 "value" u rfl rfl
      have n1 := hm 1 "low" a rfl rfl
      have n2 := hm 2 "high" b rfl rfl
      have e : (x.isTuple && rowD x lo hi) = rowD x lo hi := by cases x <;> rfl
      rw [← e]
      refine qe_and (qe_isi C (qe_name C (by rw [hsc]; decide +kernel) n0 r) (by rw [hsc]; decide +kernel) T.isinstance (by rw [hsc]; decide +kernel) T.tuple (by decide +kernel) (by decide) (by decide) (fun r h => PySem.W.isinstance_tuple_data r h)) (fun hw => qe_one ?_)
      cases x with
      | tuple es => exact qe_chain (qe_name C (by rw [hsc]; decide +kernel) n1 ra) (qe_len C (qe_name C (by rw [hsc]; decide +kernel) n0 r) (by rw [hsc]; decide +kernel) T.len sz) (qe_name C (by rw [hsc]; decide +kernel) n2 rb) (f := fun i j => decide (i ≤ j)) (g := fun i j => decide (i ≤ j)) (fun q => le_int q) (fun q => le_int q)
      | _ => cases hw
theorem lim_row (x : PyData) : (rowD x 2 2 && limD x) = limD x := by
  cases x with
  | tuple l =>
    match l with
    | [] => rfl
    | [_] => rfl
    | [a, b] => show (true && _) = _; rfl
    | _ :: _ :: _ :: _ => show (_ && false) = false; rw [Bool.and_false]
  | _ => rfl
theorem row2 {x : PyData} (h : rowD x 2 2 = true) : ∃ a b, x = .tuple [a, b] := by
  cases x with
  | tuple l =>
    have h : (decide (2 ≤ ((l.length : Nat) : Int)) && decide (((l.length : Nat) : Int) ≤ 2)) = true := h
    simp only [Bool.and_eq_true, decide_eq_true_eq] at h
    match l, h with
    | [], h => simp at h
    | [_], h => simp at h
    | [a, b], _ => exact ⟨a, b, rfl⟩
    | _ :: _ :: _ :: _, h => simp at h; omega
  | _ => cases h
theorem sc_limit : FnScope ["value"] ["value"] (defScope s_is_limit) := ⟨rfl, rfl, rfl, by decide +kernel, rfl, by decide +kernel, by decide +kernel⟩
theorem qf_limit (M : Mod K mg base) (T : D K mg) : QF P w K mg base 3 T.f_is_limit T.d_is_limit ["value"] (fun ds d => ∃ x, ds = [x] ∧ szD x ∧ d = .bool (limD x)) := by
  refine qf_of M T.U_is_limit sc_limit (by decide +kernel) (by with_unfolding_all rfl) (fun ds d h => ?_) (fun env m h0 us ds d hsc C hm hv h => ?_)
  · obtain ⟨x, rfl, _⟩ := h
    rfl
  · obtain ⟨x, rfl, sz, rfl⟩ := h
    match us, hv with
    | [u], .cons r .nil =>
      have n0 := hm 0 "value" u rfl rfl
      have mz : 5000 ≤ sizeLine := by decide
      rw [← lim_row x]
      refine qe_and (qe_call C (QF.mono (qf_row M T) (by decide)) (by rw [hsc]; decide +kernel) T.g_is_tuple T.U_is_tuple.kp T.b_is_tuple (qes_cons (qe_name C (by rw [hsc]; decide +kernel) n0 r) (qes_cons qe_int (qes_cons qe_int qes_nil))) ⟨x, _, _, rfl, sz, rfl⟩) (fun hw => ?_)
      obtain ⟨a, b, rfl⟩ := row2 hw
      exact qe_and (qe_call C (qf_betw M T) (by rw [hsc]; decide +kernel) T.g_is_between T.U_is_between.kp T.b_is_between (qes_cons (qe_ix (ds := [a, b]) (i := 0) (qe_name C (by rw [hsc]; decide +kernel) n0 r) rfl (by show 2 ≤ sizeLine; omega)) (qes_cons qe_int (qes_cons (qe_gint C (by rw [hsc]; decide +kernel) T.g_MOST_ASKS) qes_nil))) ⟨a, _, _, rfl, rfl⟩)
        (fun _ => qe_one (qe_call C (qf_betw M T) (by rw [hsc]; decide +kernel) T.g_is_between T.U_is_between.kp T.b_is_between (qes_cons (qe_ix (ds := [a, b]) (i := 1) (qe_name C (by rw [hsc]; decide +kernel) n0 r) rfl (by show 2 ≤ sizeLine; omega)) (qes_cons qe_int (qes_cons (qe_gint C (by rw [hsc]; decide +kernel) T.g_WIDEST) qes_nil))) ⟨b, _, _, rfl, rfl⟩))
end
end KP

set_option Elab.async false
set_option maxRecDepth 100000
set_option maxHeartbeats 4000000
set_option linter.all false
/-! Ours: limits, hours, rules of values of any kind. -/
namespace KP
open PySem PySem.Spec PyProof.Rows L2 Gr GxR
structure TabL {K : PySem.W.Frag} {mg : Str → Option Value} (base : Heap) (T : D K mg) : Prop where
  a : TabB base mg T.c_are_limits T.P_are_limits
  b : TabB base mg T.c_are_hours T.P_are_hours
def tabL {K : PySem.W.Frag} {mg : Str → Option Value} (T : D K mg) : List Addr := [T.P_are_limits, T.P_are_hours]
def elems : PyData → List PyData
  | .tuple l => l
  | _ => []
def limsD (d : PyData) : Bool := rowD d 0 4 && (elems d).all limD
def hoursD (d : PyData) : Bool := rowD d 1 12 && ((elems d).all (fun x => betwD x 0 1) && hasOne 1 (elems d))
def rulesD : PyData → Bool
  | .tuple [a, b] => limsD a && hoursD b
  | _ => false
def anyD : PyData → Prop := fun _ => True
section
variable {P : Program} {w : World} {K : PySem.W.Frag} {mg : Str → Option Value} {base : Heap}
theorem ok_whole (T : D K mg) : FnOk P w K mg base CX0 1 T.f_is_whole T.d_is_whole ["value"] spWhole := by
  refine T.U_is_whole.ok sc_whole (fun vs H Q E h => ?_) (fun cdv A outer s H vs Q E hr h => ?_)
  · obtain ⟨v, d, rfl, _⟩ := h
    rfl
  · obtain ⟨v, d, rfl, hd, k⟩ := h
    have nd := sc_whole.nd
    refine ⟨_, pss_one (ps_ret (pe_and (pe_callB call_isi (by rfl) T.isinstance (by decide +kernel) (pa_cons (pv 0) (pa_cons (pe_bltn (v := .ty "int") (by rfl) T.int (by decide +kernel) rfl) pa_nil))) (pe_one (pe_not (pe_callB call_isi (by rfl) T.isinstance (by decide +kernel) (pa_cons (pv 0) (pa_cons (pe_bltn (v := .ty "bool") (by rfl) T.bool (by decide +kernel) rfl) pa_nil))))))), ?_⟩
    refine and_pure (isIntD d) (!isBoolD d) (fun Q' q' => ⟨_, rfl, _, _, _, _, _, rfl, .ty _, hd.ty, kInt d, q'⟩) (fun _ Q' q' => ⟨_, rfl, _, _, _, _, _, rfl, .ty _, hd.ty, kBool d, ?_⟩) ?_
    · exact ⟨_, rfl, q'⟩
    · have e : (isIntD d && !isBoolD d) = wholeD d := by cases d <;> rfl
      rw [e]
      exact k
theorem ok_betw (T : D K mg) : FnOk P w K mg base CX0 2 T.f_is_between T.d_is_between ["value", "low", "high"] spBetw := by
  refine T.U_is_between.ok sc_betw (fun vs H Q E h => ?_) (fun cdv A outer s H vs Q E hr h => ?_)
  · obtain ⟨v, d, lo, hi, rfl, _⟩ := h
    rfl
  · obtain ⟨v, d, lo, hi, rfl, hd, k⟩ := h
    refine ⟨_, pss_one (ps_ret (pe_and (pe_call (ok_whole T) hr rfl T.g_is_whole T.U_is_whole.kp T.b_is_whole .nil pass0 (pa_cons (pv 0) pa_nil)) (pe_one (pe_chain op_le op_le (pv 1) (pv 0) (pv 2))))), ?_⟩
    refine and_pure (wholeD d) (betwD d lo hi) (fun Q' q' => ⟨_, rfl, _, _, rfl, hd, q'⟩) (fun hw Q' q' => ?_) ?_
    · cases hd with
      | int n =>
        refine ⟨_, rfl, _, rfl, _, _, rfl, rfl, _, rfl, ite2 (fun h1 => ⟨_, rfl, _, _, rfl, rfl, ?_⟩) (fun h1 => ?_)⟩
        · have e : betwD (.int n) lo hi = decide (n ≤ hi) := by
            show (decide (lo ≤ n) && decide (n ≤ hi)) = _
            rw [h1, Bool.true_and]
          rw [e] at q'
          exact q'
        · have e : betwD (.int n) lo hi = false := by
            show (decide (lo ≤ n) && decide (n ≤ hi)) = _
            rw [Bool.eq_false_iff.mpr h1, Bool.false_and]
          rw [e] at q'
          exact q'
      | _ => cases hw
    · have e : (wholeD d && betwD d lo hi) = betwD d lo hi := by cases d <;> rfl
      rw [e]
      exact k
theorem ok_row (T : D K mg) : FnOk P w K mg base CX0 1 T.f_is_tuple T.d_is_tuple ["value", "low", "high"] spRow := by
  refine T.U_is_tuple.ok sc_row (fun vs H Q E h => ?_) (fun cdv A outer s H vs Q E hr h => ?_)
  · obtain ⟨v, d, lo, hi, rfl, _⟩ := h
    rfl
  · obtain ⟨v, d, lo, hi, rfl, hd, k⟩ := h
    refine ⟨_, pss_one (ps_ret (pe_and (pe_callB call_isi (by rfl) T.isinstance (by decide +kernel) (pa_cons (pv 0) (pa_cons (pe_bltn (v := .ty "tuple") (by rfl) T.tuple (by decide +kernel) rfl) pa_nil))) (pe_one (pe_chain op_le op_le (pv 1) (pe_callB call_len_seq (by rfl) T.len PySem.boot_len (pa_cons (pv 0) pa_nil)) (pv 2))))), ?_⟩
    refine and_pure (isTupD d) (rowD d lo hi) (fun Q' q' => ⟨_, rfl, _, _, _, _, _, rfl, .ty _, hd.ty, kTup d, q'⟩) (fun hw Q' q' => ?_) ?_
    · cases hd with
      | tup e a =>
        rename_i ad xs ds
        have el := a.len
        refine ⟨_, rfl, _, rfl, ad, _, rfl, .inr (SqT.of e), _, _, rfl, rfl, _, rfl, ite2 (fun h1 => ⟨_, rfl, _, _, rfl, rfl, ?_⟩) (fun h1 => ?_)⟩
        · have e : rowD (.tuple ds) lo hi = decide (((xs.length : Nat) : Int) ≤ hi) := by
            show (decide (lo ≤ (ds.length : Nat)) && decide (((ds.length : Nat) : Int) ≤ hi)) = _
            rw [← el, h1, Bool.true_and]
          rw [e] at q'
          exact q'
        · have e : rowD (.tuple ds) lo hi = false := by
            show (decide (lo ≤ (ds.length : Nat)) && decide (((ds.length : Nat) : Int) ≤ hi)) = _
            rw [← el, Bool.eq_false_iff.mpr h1, Bool.false_and]
          rw [e] at q'
          exact q'
      | _ => cases hw
    · have e : (isTupD d && rowD d lo hi) = rowD d lo hi := by cases d <;> rfl
      rw [e]
      exact k
end

theorem OdAll.ints {H : Hp} : ∀ {xs : List V} {ds : List PyData}, OdAll H xs ds → (∀ d ∈ ds, wholeD d = true) → ∃ ns : List Int, xs = ns.map V.int ∧ ds = ns.map PyData.int
  | _, _, .nil, _ => ⟨[], rfl, rfl⟩
  | _, _, .cons a b, h => by
    obtain ⟨ns, e1, e2⟩ := OdAll.ints b fun d hd => h d (List.mem_cons_of_mem _ hd)
    cases a with
    | int i => exact ⟨i :: ns, by rw [e1]; rfl, by rw [e2]; rfl⟩
    | non => cases h _ List.mem_cons_self
    | bl _ => cases h _ List.mem_cons_self
    | str _ => cases h _ List.mem_cons_self
    | lst _ _ => cases h _ List.mem_cons_self
    | tup _ _ => cases h _ List.mem_cons_self
    | dic _ _ _ => cases h _ List.mem_cons_self
theorem ints_flat (ns : List Int) : (ns.map V.int).all flatV = true := by
  induction ns with
  | nil => rfl
  | cons n l ih => rw [List.map_cons, List.all_cons, ih]; rfl
theorem ints_in (i : Int) (ns : List Int) : inV (.int i) (ns.map V.int) = hasOne i (ns.map PyData.int) := by
  induction ns with
  | nil => rfl
  | cons n l ih =>
    unfold inV at ih ⊢
    rw [List.map_cons, List.any_cons, ih]
    rfl
theorem betw_whole {d : PyData} {lo hi : Int} (h : betwD d lo hi = true) : wholeD d = true := by
  cases d <;> first | rfl | cases h
theorem row_tup {d : PyData} {lo hi : Int} (h : rowD d lo hi = true) : ∃ ds, d = .tuple ds ∧ lo ≤ (ds.length : Nat) ∧ ((ds.length : Nat) : Int) ≤ hi := by
  cases d with
  | tuple ds =>
    have h : (decide (lo ≤ (ds.length : Nat)) && decide (((ds.length : Nat) : Int) ≤ hi)) = true := h
    rw [Bool.and_eq_true, decide_eq_true_eq, decide_eq_true_eq] at h
    exact ⟨ds, rfl, h⟩
  | _ => cases h
section
variable {P : Program} {w : World} {K : PySem.W.Frag} {mg : Str → Option Value} {base : Heap}
theorem sc_lims : FnScope ["value"] ["value"] (defScope s_are_limits) := ⟨rfl, rfl, rfl, by decide +kernel, rfl, by decide +kernel, by decide +kernel⟩
theorem ok_lims (T : D K mg) (TB : TabL base T) : FnOk P w K mg base CX0 5 T.f_are_limits T.d_are_limits ["value"] (spD (tabL T) anyD limsD) := by
  refine T.V_are_limits.ok sc_lims (fun vs H Q E h => ?_) (fun A outer s H vs Q E hr h => ?_)
  · obtain ⟨v, d, rfl, _⟩ := h
    rfl
  · obtain ⟨v, d, rfl, hd, _, hT, k⟩ := h
    refine ⟨_, pss_one (ps_ret (pe_and (pe_call (ok_row T) (hr.mono (by decide)) rfl T.g_is_tuple T.U_is_tuple.kp T.b_is_tuple .nil pass0 (pa_cons (pv 0) (pa_cons pe_int (pa_cons (pe_glob (v := .int 4) rfl T.g_MOST_PAIRS ⟨_, rfl⟩) pa_nil))))
      (pe_one (pe_allD (pb := limD) (k := 3) hr (by rfl) T.all TB.a rfl (gens_mk rfl rfl (by decide +kernel) (by rfl) (by rfl) (by decide +kernel)) (pv 0)
        (fun en m h0 v d hsc C hm hv sz => qe_call C (qf_limit C.mod T) (by rw [hsc]; decide +kernel) T.g_is_limit T.U_is_limit.kp T.b_is_limit (qes_cons (qe_name C (by rw [hsc]; decide +kernel) hm hv) qes_nil) ⟨d, rfl, sz, rfl⟩) (fun _ => rfl))))), ?_⟩
    refine ⟨_, rfl, v, d, _, _, rfl, hd, _, rfl, ?_⟩
    cases hq : rowD d 0 4 with
    | false =>
      have q := k H (.refl hT)
      have e : limsD d = false := by unfold limsD; rw [hq]; rfl
      rw [e] at q
      exact iteF q
    | true =>
      obtain ⟨ds, rfl, _⟩ := row_tup hq
      refine iteT ⟨_, rfl, ds, hd.dq, hT _ (by simp [tabL]), fun H2 t2 => ?_⟩
      have q := k H2 (.tab hT t2 (by simp [tabL]))
      have e : limsD (.tuple ds) = ds.all limD := by unfold limsD; rw [hq]; rfl
      rw [e] at q
      exact q
theorem sc_hours : FnScope ["value"] ["value"] (defScope s_are_hours) := ⟨rfl, rfl, rfl, by decide +kernel, rfl, by decide +kernel, by decide +kernel⟩
theorem ok_hours (T : D K mg) (TB : TabL base T) : FnOk P w K mg base CX0 5 T.f_are_hours T.d_are_hours ["value"] (spD (tabL T) anyD hoursD) := by
  refine T.V_are_hours.ok sc_hours (fun vs H Q E h => ?_) (fun A outer s H vs Q E hr h => ?_)
  · obtain ⟨v, d, rfl, _⟩ := h
    rfl
  · obtain ⟨v, d, rfl, hd, _, hT, k⟩ := h
    refine ⟨_, pss_one (ps_ret (pe_and (pe_call (ok_row T) (hr.mono (by decide)) rfl T.g_is_tuple T.U_is_tuple.kp T.b_is_tuple .nil pass0 (pa_cons (pv 0) (pa_cons pe_int (pa_cons (pe_glob (v := .int 12) rfl T.g_WIDEST ⟨_, rfl⟩) pa_nil))))
      (pe_and (pe_allD (pb := fun x => betwD x 0 1) (k := 3) hr (by rfl) T.all TB.b rfl (gens_mk rfl rfl (by decide +kernel) (by rfl) (by rfl) (by decide +kernel)) (pv 0)
        (fun en m h0 v d hsc C hm hv sz => qe_call C (QF.mono (qf_betw C.mod T) (by decide)) (by rw [hsc]; decide +kernel) T.g_is_between T.U_is_between.kp T.b_is_between (qes_cons (qe_name C (by rw [hsc]; decide +kernel) hm hv) (qes_cons qe_int (qes_cons qe_int qes_nil))) ⟨d, _, _, rfl, rfl⟩) (fun _ => rfl))
        (pe_one (pe_cmpR op_in_seq pe_int (pv 0) rfl))))), ?_⟩
    refine ⟨_, rfl, v, d, _, _, rfl, hd, _, rfl, ?_⟩
    cases hq : rowD d 1 12 with
    | false =>
      have q := k H (.refl hT)
      have e : hoursD d = false := by unfold hoursD; rw [hq]; rfl
      rw [e] at q
      exact iteF q
    | true =>
      obtain ⟨ds, rfl, _⟩ := row_tup hq
      have e : hoursD (.tuple ds) = (ds.all (fun x => betwD x 0 1) && hasOne 1 ds) := by unfold hoursD; rw [hq]; rfl
      refine iteT ⟨_, rfl, ds, hd.dq, hT _ (by simp [tabL]), fun H2 t2 => ⟨_, rfl, ?_⟩⟩
      have u2 : UpL (tabL T) H H2 := .tab hT t2 (by simp [tabL])
      have q := k H2 u2
      rw [e] at q
      cases ha : ds.all (fun x => betwD x 0 1) with
      | false =>
        rw [ha] at q
        exact iteF q
      | true =>
        rw [ha, Bool.true_and] at q
        have hd2 : Od H2 v (.tuple ds) := hd.stay (u2.stay hT)
        obtain ⟨a, xs, rfl, ea, oa⟩ := od_tup hd2
        obtain ⟨ns, rfl, rfl⟩ := OdAll.ints oa fun d hd => betw_whole (List.all_eq_true.mp ha d hd)
        rw [← ints_in] at q
        exact iteT ⟨_, rfl, a, _, rfl, .inr (SqT.of ea), rfl, ints_flat ns, q⟩
theorem rules_row (x : PyData) (h : rowD x 2 2 = false) : rulesD x = false := by
  cases x with
  | tuple l =>
    match l, h with
    | [], _ => rfl
    | [_], _ => rfl
    | [a, b], h => cases h
    | _ :: _ :: _ :: _, _ => rfl
  | _ => rfl
end
end KP

set_option Elab.async false
set_option maxRecDepth 100000
set_option maxHeartbeats 4000000
set_option linter.all false
/-! Ours: drawn limits and hours. -/
namespace KP
open PySem PySem.Spec PyProof.Rows L2 Gr GxR
def prD (p : Int × Int) : PyData := .tuple [.int p.1, .int p.2]
def Lim (ps : List (Int × Int)) : Prop := ps.length ≤ 4 ∧ ∀ p ∈ ps, 1 ≤ p.1 ∧ p.1 ≤ 6 ∧ 1 ≤ p.2 ∧ p.2 ≤ 12
theorem lim_ok {ps : List (Int × Int)} (h : Lim ps) : limsD (.tuple (ps.map prD)) = true := by
  have e1 : rowD (.tuple (ps.map prD)) 0 4 = true := by
    show (decide ((0 : Int) ≤ ((ps.map prD).length : Nat)) && decide ((((ps.map prD).length : Nat) : Int) ≤ 4)) = true
    have := h.1
    rw [List.length_map, Bool.and_eq_true, decide_eq_true_eq, decide_eq_true_eq]
    omega
  have e2 : (ps.map prD).all limD = true := by
    refine List.all_eq_true.mpr fun d hd => ?_
    obtain ⟨p, hp, rfl⟩ := List.mem_map.mp hd
    have := h.2 p hp
    show ((decide (1 ≤ p.1) && decide (p.1 ≤ 6)) && (decide (1 ≤ p.2) && decide (p.2 ≤ 12))) = true
    simp only [Bool.and_eq_true, decide_eq_true_eq]
    omega
  unfold limsD
  rw [e1]
  exact e2
/-- a value drawn from the well at p -/
def Drawn (H : Hp) (p : Addr) (R : PyData → Prop) (Q : VK) : Prop := ∀ v d H', But H H' p → Well H' p → Od (hide H' [p]) v d → R d → Q v H'
def limR : PyData → Prop := fun d => ∃ ps, d = .tuple (ps.map prD) ∧ Lim ps
def spSomeLim : Sp := fun vs H Q _ => ∃ (p : Addr) (tp wd : Int), vs = [.ref p, .int tp, .int wd] ∧ Well H p ∧ 0 < tp ∧ tp ≤ 6 ∧ 0 < wd ∧ wd ≤ 12 ∧ Drawn H p limR Q
section
variable {P : Program} {w : World} {K : PySem.W.Frag} {mg : Str → Option Value} {base : Heap}
theorem sc_slim : FnScope ["_law_well_here", "_law_top", "_law_width", "_law_number", "_law_turn"] ["_law_well_here", "_law_top", "_law_width"] (defScope s_l_some_limits) := ⟨rfl, rfl, rfl, by decide +kernel, rfl, by decide +kernel, by decide +kernel⟩
theorem ok_slim (T : D K mg) : FnOk P w K mg base CX0 3 T.f_l_some_limits T.d_l_some_limits ["_law_well_here", "_law_top", "_law_width"] spSomeLim := by
  refine T.U_l_some_limits.ok sc_slim (fun vs H Q E h => ?_) (fun cdv A outer s H vs Q E hr h => ?_)
  · obtain ⟨p, tp, wd, rfl, _⟩ := h
    rfl
  · obtain ⟨p, tp, wd, rfl, hp, t0, t1, w0, w1, k⟩ := h
    have nd := sc_slim.nd
    have mz : 5000 ≤ sizeLine := by decide
    refine ⟨_, pss_cons (ps_set (i := 3) nd rfl (.inl rfl) (pe_call (ok_l_one T) hr rfl T.g_l_one T.U_l_one.kp T.b_l_one .nil pass0 (pa_cons (pv 0) (pa_cons (pe_lst (pa_cons pe_int (pa_cons pe_int (pa_cons pe_int (pa_cons pe_int (pa_cons pe_int (pa_cons pe_int (pa_cons pe_int (pa_cons pe_int (pa_cons pe_int pa_nil)))))))))) pa_nil))))
      (pss_one (ps_ret (pe_callTy call_tuple_of (by rfl) T.tuple (by decide +kernel) (pa_cons (pe_lc (own := [("_law_turn", 4)]) (g := gName 4) (tt := tYes) rfl nd (pi_range1 rfl T.range (pa_cons (pv 3) pa_nil)) (blkOk_by (N := ["_law_well_here", "_law_top", "_law_width", "_law_number", "_law_turn"]) (sc := defScope s_l_some_limits) (by decide +kernel)) (fun _ _ _ _ _ => pg_name (i := 4) nd rfl (.inl rfl)) (fun _ _ _ _ _ => pts_nil) (fun _ _ _ _ _ => pe_tup (pa_cons (pe_op op_add pe_int (pe_call (ok_l_pick T) (hr.mono (by decide)) rfl T.g_l_pick T.U_l_pick.kp T.b_l_pick .nil pass0 (pa_cons (pv 0) (pa_cons (pv 1) pa_nil)))) (pa_cons (pe_op op_add pe_int (pe_call (ok_l_pick T) (hr.mono (by decide)) rfl T.g_l_pick T.U_l_pick.kp T.b_l_pick .nil pass0 (pa_cons (pv 0) (pa_cons (pv 2) pa_nil)))) pa_nil)))) pa_nil)))), ?_⟩
    refine ⟨_, rfl, by show 9 ≤ sizeLine; omega, fun q hq => ?_⟩
    have sq := same_upd (o := HO.lst [V.int 1, V.int 1, V.int 1, V.int 2, V.int 2, V.int 2, V.int 3, V.int 4, V.int 0]) hq
    refine ⟨p, q, _, rfl, hp.same sq, upd_same, well_ne hp hq, by decide, by decide, fun i v H1 hv w1' b1 => ?_⟩
    obtain ⟨n, rfl, n0, n4⟩ : ∃ n : Int, v = .int n ∧ 0 ≤ n ∧ n ≤ 4 := by
      have hm := List.mem_of_getElem? hv
      simp only [List.mem_cons, List.not_mem_nil, or_false] at hm
      rcases hm with rfl | rfl | rfl | rfl | rfl | rfl | rfl | rfl | rfl <;> exact ⟨_, rfl, by decide, by decide⟩
    have b01 : But H H1 p := (But.same' sq).trans b1
    refine gn ?_
    dsimp only
    refine ⟨_, rfl, n, rfl, by omega, by omega, fun D hD => lc_range (fun i Hx => But H1 Hx p ∧ Well Hx p ∧ ∃ (vs : List V) (ps : List (Int × Int)), Hx D = some (.lst vs) ∧ vs.length = i ∧ ps.length = i ∧ OdAll (hide Hx [p, D]) vs (ps.map prD) ∧ ∀ p ∈ ps, 1 ≤ p.1 ∧ p.1 ≤ 6 ∧ 1 ≤ p.2 ∧ p.2 ≤ 12)
      ⟨But.same' (same_upd hD), w1'.same (same_upd hD), [], [], upd_same, rfl, rfl, .nil, fun _ h => nomatch h⟩ ?_ ?_⟩
    · rintro i Hx hi ⟨bx, wx, vs, ps, ev, lv, lp, ov, hps⟩
      have nDp := well_ne w1' hD
      refine ⟨rfl, ?_⟩
      unfold tYes
      dsimp only
      rw [if_pos rfl]
      refine ⟨_, rfl, _, rfl, p, tp, rfl, wx, t0, by omega, fun r H3 r0 r1 w3 b3 => ⟨_, _, rfl, rfl, _, rfl, _, rfl, p, wd, rfl, w3, w0, by omega, fun r' H4 r0' r1' w4 b4 => ⟨_, _, rfl, rfl, by show 2 ≤ sizeLine; omega, fun t ht => ?_⟩⟩⟩
      have b34 := b3.trans b4
      have e4 : H4 D = some (.lst vs) := b34 _ _ ev nDp
      have st := same_upd (o := HO.tup [V.int (1 + r), V.int (1 + r')]) ht
      have ntp := well_ne w4 ht
      have ntD : t ≠ D := fun z => by rw [z, e4] at ht; cases ht
      refine ⟨_, st _ _ e4, by omega, (bx.trans (b34.trans (But.same' st))).put hD, (w4.same st).put nDp, _, ps ++ [(1 + r, 1 + r')], upd_same, by rw [List.length_append, lv]; rfl, by rw [List.length_append, lp]; rfl, ?_, fun x hx => ?_⟩
      · rw [List.map_append]
        refine (ov.same (hide_put (b34.trans (But.same' st)))).app (.cons (.tup (hide_at2 ((upd_ne ntD).trans upd_same) ntp ntD) (.cons (.int _) (.cons (.int _) .nil))) .nil)
      · rcases List.mem_append.mp hx with z | z
        · exact hps x z
        · rw [List.mem_singleton.mp z]
          show 1 ≤ 1 + r ∧ 1 + r ≤ 6 ∧ 1 ≤ 1 + r' ∧ 1 + r' ≤ 12
          omega
    · rintro Hx ⟨bx, wx, vs, ps, ev, lv, lp, ov, hps⟩
      refine ⟨D, vs, rfl, .inl ⟨SqL.of ev, fun R hR => ?_⟩⟩
      have sR := same_upd (o := HO.tup vs) hR
      exact k _ (.tuple (ps.map prD)) _ (b01.trans (bx.trans (But.same' sR))) (wx.same sR) (.tup (hide_at1 upd_same (well_ne wx hR)) ((ov.same hide_one).same (same_hide _ sR))) ⟨ps, rfl, by omega, hps⟩
end
end KP

set_option Elab.async false
set_option maxRecDepth 100000
set_option maxHeartbeats 4000000
set_option linter.all false
/-! Ours: drawn hours. -/
namespace KP
open PySem PySem.Spec PyProof.Rows L2 Gr GxR
theorem ixN_in {n : Nat} {r : Int} (h0 : 0 ≤ r) (h1 : r < n) : ixN n r = some r.toNat := by
  unfold ixN
  rw [if_pos h0, if_pos h1]
theorem ints_od {H : Hp} : ∀ ns : List Int, OdAll H (ns.map V.int) (ns.map PyData.int)
  | [] => .nil
  | n :: ns => .cons (.int n) (ints_od ns)
def hrsR : PyData → Prop := fun d => ∃ hs : List Int, d = .tuple (hs.map PyData.int) ∧ 0 < hs.length ∧ hs.length ≤ 12 ∧ (∀ h ∈ hs, 0 ≤ h ∧ h ≤ 1) ∧ ∃ j : Nat, ∃ h : j < hs.length, hs[j] = 1
def spSomeHrs : Sp := fun vs H Q _ => ∃ (p : Addr) (tp : Int), vs = [.ref p, .int tp] ∧ Well H p ∧ 0 < tp ∧ tp ≤ 12 ∧ Drawn H p hrsR Q
section
variable {P : Program} {w : World} {K : PySem.W.Frag} {mg : Str → Option Value} {base : Heap}
theorem sc_shrs : FnScope ["_law_well_here", "_law_top", "_law_row", "_law_turn"] ["_law_well_here", "_law_top"] (defScope s_l_some_hours) := ⟨rfl, rfl, rfl, by decide +kernel, rfl, by decide +kernel, by decide +kernel⟩
theorem ok_shrs (T : D K mg) : FnOk P w K mg base CX0 3 T.f_l_some_hours T.d_l_some_hours ["_law_well_here", "_law_top"] spSomeHrs := by
  refine T.U_l_some_hours.ok sc_shrs (fun vs H Q E h => ?_) (fun cdv A outer s H vs Q E hr h => ?_)
  · obtain ⟨p, tp, rfl, _⟩ := h
    rfl
  · obtain ⟨p, tp, rfl, hp, t0, t1, k⟩ := h
    have nd := sc_shrs.nd
    have mz : 5000 ≤ sizeLine := by decide
    refine ⟨_, pss_cons (ps_setLc (i := 2) (own := [("_law_turn", 3)]) (g := gName 3) (tt := tYes) rfl nd rfl rfl (sw_true rfl rfl rfl (by decide +kernel)) (pi_range1 rfl T.range (pa_cons (pe_op op_add pe_int (pe_call (ok_l_pick T) (hr.mono (by decide)) rfl T.g_l_pick T.U_l_pick.kp T.b_l_pick .nil pass0 (pa_cons (pv 0) (pa_cons (pv 1) pa_nil)))) pa_nil)) (blkOk_by (N := ["_law_well_here", "_law_top", "_law_row", "_law_turn"]) (sc := defScope s_l_some_hours) (by decide +kernel)) (fun _ _ _ _ _ => pg_name (i := 3) nd rfl (.inl rfl)) (fun _ _ _ _ _ => pts_nil) (fun _ _ _ _ _ => pe_call (ok_l_one T) hr rfl T.g_l_one T.U_l_one.kp T.b_l_one .nil pass0 (pa_cons (pv 0) (pa_cons (pe_lst (pa_cons pe_int (pa_cons pe_int (pa_cons pe_int pa_nil)))) pa_nil))))
      (pss_cons (ps_asg pe_int (pg_sub (pv 2) (pe_call (ok_l_pick T) (hr.mono (by decide)) rfl T.g_l_pick T.U_l_pick.kp T.b_l_pick .nil pass0 (pa_cons (pv 0) (pa_cons (pe_callB call_len_seq (by rfl) T.len PySem.boot_len (pa_cons (pv 2) pa_nil)) pa_nil))) set_list))
      (pss_one (ps_ret (pe_callTy call_tuple_of (by rfl) T.tuple (by decide +kernel) (pa_cons (pv 2) pa_nil))))), ?_⟩
    refine ⟨_, rfl, _, rfl, p, tp, rfl, hp, t0, by omega, fun n H1 n0 n1 w1 b1 => ⟨_, _, rfl, rfl, ?_⟩⟩
    refine ⟨_, rfl, by omega, by omega, fun D hD => lc_range (fun i Hx => But H1 Hx p ∧ Well Hx p ∧ ∃ ns : List Int, Hx D = some (.lst (ns.map V.int)) ∧ ns.length = i ∧ ∀ h ∈ ns, 0 ≤ h ∧ h ≤ 1)
      ⟨But.same' (same_upd hD), w1.same (same_upd hD), [], upd_same, rfl, fun _ h => nomatch h⟩ ?_ ?_⟩
    · rintro i Hx hi ⟨bx, wx, ns, ev, lv, nv⟩
      have nDp := well_ne w1 hD
      refine ⟨rfl, ?_⟩
      unfold tYes
      dsimp only
      rw [if_pos rfl]
      refine ⟨_, rfl, by show 3 ≤ sizeLine; omega, fun q hq => ?_⟩
      have sq := same_upd (o := HO.lst [V.int 1, V.int 1, V.int 0]) hq
      refine ⟨p, q, _, rfl, wx.same sq, upd_same, well_ne wx hq, by decide, by decide, fun j v H3 hv w3 b3 => ?_⟩
      obtain ⟨m, rfl, hm01⟩ : ∃ m : Int, v = .int m ∧ 0 ≤ m ∧ m ≤ 1 := by
        have hm := List.mem_of_getElem? hv
        simp only [List.mem_cons, List.not_mem_nil, or_false] at hm
        rcases hm with rfl | rfl | rfl <;> exact ⟨_, rfl, by decide, by decide⟩
      have bq := (But.same' sq).trans b3
      exact ⟨_, bq _ _ ev nDp, by rw [List.length_map]; omega, (bx.trans bq).put hD, w3.put nDp, ns ++ [m], by rw [upd_same, List.map_append]; rfl, by rw [List.length_append, lv]; rfl, fun h hh => by
        rcases List.mem_append.mp hh with q | q
        · exact nv h q
        · rw [List.mem_singleton.mp q]; exact hm01⟩
    · rintro Hx ⟨bx, wx, ns, ev, lv, nv⟩
      have nDp := well_ne w1 hD
      refine gn ?_
      dsimp only
      refine ⟨_, rfl, _, rfl, _, rfl, D, _, rfl, .inl (SqL.of ev), p, _, rfl, wx, by rw [List.length_map]; omega, by rw [List.length_map]; omega, fun r H3 r0 r1 w3 b3 => ?_⟩
      rw [List.length_map] at r1
      have e3 := b3 _ _ ev nDp
      refine ⟨D, _, r, r.toNat, rfl, rfl, e3, ixN_in r0 (by rw [List.length_map]; omega), ?_⟩
      refine ⟨_, rfl, D, _, rfl, .inl ⟨SqL.of upd_same, fun R hR => ?_⟩⟩
      have e5 : (ns.map V.int).set r.toNat (.int 1) = (ns.set r.toNat 1).map V.int := by rw [List.map_set]
      rw [e5] at hR ⊢
      have wD : Well (upd H3 D (.lst ((ns.set r.toNat 1).map V.int))) p := w3.put nDp
      have sR := same_upd (o := HO.tup ((ns.set r.toNat 1).map V.int)) hR
      refine k _ (.tuple ((ns.set r.toNat 1).map PyData.int)) _ (b1.trans (((bx.trans b3).put hD).trans (But.same' sR))) (wD.same sR) (.tup (hide_at1 upd_same (well_ne wD hR)) (ints_od _)) ⟨_, rfl, by rw [List.length_set]; omega, by rw [List.length_set]; omega, fun h hh => ?_, r.toNat, by rw [List.length_set]; omega, List.getElem_set_self _⟩
      rcases List.mem_or_eq_of_mem_set hh with q | q
      · exact nv h q
      · rw [q]; exact ⟨by decide, by decide⟩
end
end KP

set_option Elab.async false
set_option maxRecDepth 100000
set_option maxHeartbeats 4000000
set_option linter.all false
/-! Ours: names and paths of values of any kind. -/
namespace KP
open PySem PySem.Spec PyProof.Rows L2 Gr GxR
def LTs : Str := "abcdefghijklmnopqrstuvwxyz"
def LT : List Nat := LTs.cps.toList
def isName (z : Str) : Bool := (decide (1 ≤ z.length) && decide (z.length ≤ 12)) && z.cps.toList.all (fun c => decide (c ∈ LT))
structure TabN {K : PySem.W.Frag} {mg : Str → Option Value} (base : Heap) (T : D K mg) : Prop where
  c : TabB base mg T.c_is_name T.P_is_name
def nameD : PyData → Bool
  | .str z => isName z
  | _ => false
/-- a text isn't too long -/
def ShortD : PyData → Prop
  | .str z => z.length ≤ 1000
  | _ => True
def spOfD (Pt : Addr) (f : PyData → Bool) : Sp := fun vs H Q _ => ∃ v d, vs = [v] ∧ Od H v d ∧ ShortD d ∧ TabG H Pt ∧ ∀ H', Tabbed Pt H H' → Q (.bl (f d)) H'
theorem str_or {H : Hp} {v : V} {d : PyData} (h : Od H v d) : (∃ z, v = .str z ∧ d = .str z) ∨ isStrD d = false := by
  cases h with
  | str z => exact .inl ⟨z, rfl, rfl⟩
  | _ => exact .inr rfl
theorem no_name {d : PyData} (h : isStrD d = false) : nameD d = false := by
  cases d <;> first | rfl | cases h
theorem iteT' {c : Bool} {A B : Prop} (hc : c = true) (h : A) : if c = true then A else B := by
  subst hc
  exact h
section
variable {P : Program} {w : World} {K : PySem.W.Frag} {mg : Str → Option Value} {base : Heap}
theorem sc_is_name : FnScope ["value"] ["value"] (defScope s_is_name) := ⟨rfl, rfl, rfl, by decide +kernel, rfl, by decide +kernel, by decide +kernel⟩
theorem ok_is_name (T : D K mg) (TB : TabN base T) : FnOk P w K mg base CX0 2 T.f_is_name T.d_is_name ["value"] (spOfD T.P_is_name nameD) := by
  refine T.V_is_name.ok sc_is_name (fun vs H Q E h => ?_) (fun A outer s H vs Q E hr h => ?_)
  · obtain ⟨v, d, rfl, _⟩ := h
    rfl
  · obtain ⟨v, d, rfl, hd, hl, hT, k⟩ := h
    have nd := sc_is_name.nd
    refine ⟨_, pss_cons (ps_if (PW.pt (pw_or (pt_not (pt_val (pe_callB call_isi (by rfl) T.isinstance (by decide +kernel) (pa_cons (pv 0) (pa_cons (pe_bltn (v := .ty "str") (by rfl) T.str (by decide +kernel) rfl) pa_nil))))) (pw_or1 (pt_not (pt_chain op_le op_le pe_int (pe_callB call_len_str (by rfl) T.len PySem.boot_len (pa_cons (pv 0) pa_nil)) (pe_glob (v := .int 12) rfl T.g_LONGEST_NAME ⟨_, rfl⟩))))))
        (pss_one (ps_ret pe_bl))
        (pss_nil))
      (pss_one (ps_ret (pe_allG (pb := fun c => decide (c ∈ LT)) hr (by rfl) T.all TB.c rfl (gens_mk rfl rfl (by decide +kernel) (by rfl) (by rfl) (by decide +kernel)) (pv 0) (eg_in (y := LTs) rfl (by rfl) (by rfl) T.g_LETTERS) (fun _ => rfl)))), ?_⟩
    refine ⟨_, rfl, _, _, _, _, _, rfl, .ty _, hd.ty, kStr d, _, rfl, ?_⟩
    rcases str_or hd with ⟨z, rfl, rfl⟩ | hn
    case inr => exact iteT' (by rw [hn]; rfl) (by rw [← no_name hn]; exact k H (Tabbed.refl hT))
    refine iteF ?_
    have k : ∀ H', Tabbed T.P_is_name H H' → Q (.bl (isName z)) H' := k
    have hl : z.length ≤ 1000 := hl
    have hz : z.length ≤ sizeLine := Nat.le_trans hl (by decide)
    refine ⟨_, rfl, _, rfl, hz, _, _, rfl, rfl, _, rfl, ?_⟩
    have bad : (decide (1 ≤ z.length) && decide (z.length ≤ 12)) = false → isName z = false := fun e => by unfold isName; rw [e]; rfl
    have out : isName z = false → Q (.bl false) H := fun e => by
      have q := k H (Tabbed.refl hT)
      rw [e] at q
      exact q
    have d1 : decide ((1 : Int) ≤ (z.length : Nat)) = decide (1 ≤ z.length) := by
      apply decide_eq_decide.mpr
      omega
    have d2 : decide (((z.length : Nat) : Int) ≤ 12) = decide (z.length ≤ 12) := by
      apply decide_eq_decide.mpr
      omega
    rw [d1]
    cases h1 : decide (1 ≤ z.length) with
    | false => exact iteF ⟨_, rfl, iteT (out (bad (by rw [h1]; rfl)))⟩
    | true =>
      refine iteT ⟨_, _, rfl, rfl, _, rfl, ?_⟩
      rw [d2]
      cases h2 : decide (z.length ≤ 12) with
      | false => exact iteT (out (bad (by rw [h1, h2]; rfl)))
      | true =>
        refine iteF ⟨_, rfl, z, rfl, hT, fun H2 t2 => ?_⟩
        have q := k H2 t2
        have eP : isName z = z.cps.toList.all (fun c => decide (c ∈ LT)) := by unfold isName; rw [h1, h2]; rfl
        rw [eP] at q
        exact q
end
end KP

set_option Elab.async false
set_option maxRecDepth 100000
set_option maxHeartbeats 4000000
set_option linter.all false
/-! Ours: groups of a file that are right. -/
namespace KP
open PySem PySem.Spec PyProof.Rows L2 Gr GxR PM
def callerB (z : Str) : Bool := isName z || z == "*"
structure Grp where
  names : List Str
  rows : List (Str × Str)
  lim : List (Int × Int)
  hrs : List Int
def grpD (g : Grp) : PyData := .tuple [.tuple (g.names.map .str), .tuple (g.rows.map rowP), .tuple (g.lim.map prD), .tuple (g.hrs.map .int)]
def HrsOk (hs : List Int) : Prop := 0 < hs.length ∧ hs.length ≤ 12 ∧ (∀ h ∈ hs, 0 ≤ h ∧ h ≤ 1) ∧ ∃ j : Nat, ∃ h : j < hs.length, hs[j] = 1
theorem has_one : ∀ {hs : List Int}, (1 : Int) ∈ hs → hasOne 1 (hs.map PyData.int) = true
  | h :: l, m => by
    show ((h == 1) || hasOne 1 (l.map PyData.int)) = true
    rw [Bool.or_eq_true]
    rcases List.mem_cons.mp m with e | e
    · exact .inl (by rw [← e]; rfl)
    · exact .inr (has_one e)
theorem hours_ok {hs : List Int} (g : HrsOk hs) : hoursD (.tuple (hs.map PyData.int)) = true := by
  obtain ⟨h0, h1, hd1, j, hj, e⟩ := g
  have e1 : rowD (.tuple (hs.map PyData.int)) 1 12 = true := by
    show (decide ((1 : Int) ≤ ((hs.map PyData.int).length : Nat)) && decide ((((hs.map PyData.int).length : Nat) : Int) ≤ 12)) = true
    rw [List.length_map, Bool.and_eq_true, decide_eq_true_eq, decide_eq_true_eq]
    omega
  have e2 : (hs.map PyData.int).all (fun x => betwD x 0 1) = true := List.all_eq_true.mpr fun d hd => by
    obtain ⟨h, hh, rfl⟩ := List.mem_map.mp hd
    have := hd1 h hh
    show (decide (0 ≤ h) && decide (h ≤ 1)) = true
    rw [Bool.and_eq_true, decide_eq_true_eq, decide_eq_true_eq]
    exact this
  have e3 : hasOne 1 (hs.map PyData.int) = true := has_one (e ▸ List.getElem_mem hj)
  unfold hoursD
  rw [e1, Bool.true_and]
  show ((hs.map PyData.int).all (fun x => betwD x 0 1) && hasOne 1 (hs.map PyData.int)) = true
  rw [e2, e3]
  rfl
structure GrpR (g : Grp) : Prop where
  n0 : 1 ≤ g.names.length
  n1 : g.names.length ≤ 3
  nm : ∀ z ∈ g.names, callerB z = true
  rows : RowsR g.rows
  lim : Lim g.lim
  hrs : HrsOk g.hrs
/-- the tables of files and rules -/
structure TabF {K : PySem.W.Frag} {mg : Str → Option Value} (base : Heap) (T : D K mg) : Prop where
  n : TabN base T
  l : TabL base T
  g : TabB base mg T.c_is_group T.P_is_group
  r1 : T.P_ranked ≠ T.P_is_name
  r2 : T.P_ranked ≠ T.P_is_group
  r3 : T.P_ranked ≠ T.P_are_limits
  r4 : T.P_ranked ≠ T.P_are_hours
def tabF {K : PySem.W.Frag} {mg : Str → Option Value} (T : D K mg) : List Addr := [T.P_is_name, T.P_is_group, T.P_are_limits, T.P_are_hours]
theorem TabF.nl {K : PySem.W.Frag} {mg : Str → Option Value} {base : Heap} {T : D K mg} (TF : TabF base T) : T.P_ranked ∉ tabL T := fun h => by
  rcases List.mem_cons.mp h with e | h
  · exact TF.r3 e
  · exact TF.r4 (List.mem_singleton.mp h)
structure T8 {K : PySem.W.Frag} {mg : Str → Option Value} (T : D K mg) (H : Hp) : Prop where
  t : T3 T H
  n : TabG H T.P_is_name
  g : TabG H T.P_is_group
  l : Tb (tabL T) H
section
variable {K : PySem.W.Frag} {mg : Str → Option Value} {T : D K mg} {H H1 H2 : Hp}
theorem U3.t8 (h : T8 T H) (u : U3 T H H1) : T8 T H1 := ⟨u.1, u.3 _ h.n, u.3 _ h.g, fun p hp => u.3 p (h.l p hp)⟩
theorem U3.upl {ps : List Addr} (h : T3 T H) (n : T.P_ranked ∉ ps) (b : Tb ps H) (u : UpL ps H H1) : U3 T H H1 := by
  have tb : ∀ p, TabG H p → TabG H1 p := fun p hp => by
    by_cases e : p ∈ ps
    · exact u.1 p e
    · obtain ⟨qs, a, t⟩ := hp
      exact ⟨qs, u.2 p e _ a, t⟩
  have st := UpL.stay b u
  refine ⟨⟨⟨tb _ h.1.1, tb _ h.1.2⟩, ?_⟩, st, tb⟩
  obtain ⟨qs, e, t, c⟩ := h.2
  refine ⟨qs, u.2 _ n _ e, t, fun pos cv hc => ?_⟩
  obtain ⟨c', e1, e2⟩ := c pos cv hc
  exact ⟨c', e1, st _ _ e2 LamX.codeO_ne⟩
theorem U3.tab' {p : Addr} (h : T3 T H) (n : T.P_ranked ≠ p) (b : TabG H p) (u : Tabbed p H H1) : U3 T H H1 :=
  U3.upl h (ps := [p]) (fun z => n (List.mem_singleton.mp z)) (fun q hq => by rw [List.mem_singleton.mp hq]; exact b) (UpL.tab (fun q hq => by rw [List.mem_singleton.mp hq]; exact b) u (List.mem_singleton.mpr rfl))
end
theorem od4 {H : Hp} {xs : List V} {a b c d : PyData} (h : OdAll H xs [a, b, c, d]) : ∃ p q r t, xs = [p, q, r, t] ∧ Od H p a ∧ Od H q b ∧ Od H r c ∧ Od H t d := by
  cases h with
  | cons h1 h =>
  cases h with
  | cons h2 h =>
  cases h with
  | cons h3 h =>
  cases h with
  | cons h4 h =>
  cases h
  exact ⟨_, _, _, _, rfl, h1, h2, h3, h4⟩
def spCaller {K : PySem.W.Frag} {mg : Str → Option Value} (T : D K mg) : Sp := fun vs H Q _ => ∃ z, vs = [.str z] ∧ z.length ≤ 1000 ∧ T8 T H ∧ ∀ H', U3 T H H' → Q (.bl (callerB z)) H'
def spChkName {K : PySem.W.Frag} {mg : Str → Option Value} (T : D K mg) : Sp := fun vs H Q _ => ∃ z, vs = [.str z] ∧ isName z = true ∧ T8 T H ∧ ∀ H', U3 T H H' → Q .non H'
def spGroup {K : PySem.W.Frag} {mg : Str → Option Value} (T : D K mg) : Sp := fun vs H Q _ => ∃ v g, vs = [v] ∧ Od H v (grpD g) ∧ GrpR g ∧ T8 T H ∧ ∀ H', U3 T H H' → Q (.bl true) H'
theorem isName_len {z : Str} (h : isName z = true) : 1 ≤ z.length ∧ z.length ≤ 12 := by
  unfold isName at h
  rw [Bool.and_eq_true, Bool.and_eq_true, decide_eq_true_eq, decide_eq_true_eq] at h
  exact h.1
theorem caller_len {z : Str} (h : callerB z = true) : 1 ≤ z.length ∧ z.length ≤ 12 := by
  unfold callerB at h
  rw [Bool.or_eq_true, beq_iff_eq] at h
  rcases h with h | rfl
  · exact isName_len h
  · decide +kernel
section
variable {P : Program} {w : World} {K : PySem.W.Frag} {mg : Str → Option Value} {base : Heap}
theorem sc_caller : FnScope ["value"] ["value"] (defScope s_is_caller) := ⟨rfl, rfl, rfl, by decide +kernel, rfl, by decide +kernel, by decide +kernel⟩
theorem ok_caller (T : D K mg) (TF : TabF base T) : FnOk P w K mg base CX0 3 T.f_is_caller T.d_is_caller ["value"] (spCaller T) := by
  refine T.U_is_caller.ok sc_caller (fun vs H Q E h => ?_) (fun cdv A outer s H vs Q E hr h => ?_)
  · obtain ⟨z, rfl, _⟩ := h
    rfl
  · obtain ⟨z, rfl, hz, hT, k⟩ := h
    refine ⟨_, pss_one (ps_ret (pe_or (pe_call (ok_is_name T TF.n) hr rfl T.g_is_name T.V_is_name.kp T.b_is_name .nil pass0 (pa_cons (pv 0) pa_nil)) (pe_one (pe_and (pe_callB call_isi (by rfl) T.isinstance (by decide +kernel) (pa_cons (pv 0) (pa_cons (pe_bltn (v := .ty "str") (by rfl) T.str (by decide +kernel) rfl) pa_nil))) (pe_one (pe_cmpR op_eq (pv 0) (pe_glob (v := .str "*") rfl T.g_ANYONE ⟨_, rfl⟩) (nomark _))))))), ?_⟩
    refine ⟨_, rfl, _, _, rfl, .str z, hz, hT.n, fun H1 t1 => ?_⟩
    have u1 := U3.tab' hT.t TF.r1 hT.n t1
    have q := k H1 u1
    unfold callerB at q
    cases hn : isName z with
    | true =>
      rw [hn] at q
      refine ⟨true, congrArg V.bl hn, iteT ?_⟩
      exact q
    | false =>
      rw [hn] at q
      refine ⟨false, congrArg V.bl hn, iteF ?_⟩
      refine ⟨_, rfl, _, _, _, _, true, rfl, .ty _, .base (.str z), kit_ty (by decide +kernel), true, rfl, iteT ?_⟩
      refine ⟨_, rfl, rfl, ?_⟩
      show Q (.bl (decide (V.str z = V.str "*"))) H1
      rw [str_eqB]
      exact q
theorem sc_chkname : FnScope ["given"] ["given"] (defScope s_check_name) := ⟨rfl, rfl, rfl, by decide +kernel, rfl, by decide +kernel, by decide +kernel⟩
theorem ok_chkname (T : D K mg) (TF : TabF base T) : FnOk P w K mg base CX0 3 T.f_check_name T.d_check_name ["given"] (spChkName T) := by
  refine T.U_check_name.ok sc_chkname (fun vs H Q E h => ?_) (fun cdv A outer s H vs Q E hr h => ?_)
  · obtain ⟨z, rfl, _⟩ := h
    rfl
  · obtain ⟨z, rfl, hz, hT, k⟩ := h
    refine ⟨_, pss_one (ps_if (pt_not (pt_val (pe_call (ok_is_name T TF.n) hr rfl T.g_is_name T.V_is_name.kp T.b_is_name .nil pass0 (pa_cons (pv 0) pa_nil))))
        (pss_one ps_never)
        (pss_nil)), ?_⟩
    refine ⟨_, rfl, _, _, rfl, .str z, by have := isName_len hz; show z.length ≤ 1000; omega, hT.n, fun H1 t1 => ?_⟩
    refine ⟨true, by rw [show nameD (.str z) = isName z from rfl, hz], iteF ?_⟩
    exact k H1 (U3.tab' hT.t TF.r1 hT.n t1)
theorem sc_group : FnScope ["value", "names", "paths", "limits", "hours"] ["value"] (defScope s_is_group) := ⟨rfl, rfl, rfl, by decide +kernel, rfl, by decide +kernel, by decide +kernel⟩
theorem ok_group (T : D K mg) (TB : Tabs base T) (TR : TabR base T) (TF : TabF base T) : FnOk P w K mg base CX0 6 T.f_is_group T.d_is_group ["value"] (spGroup T) := by
  refine T.V_is_group.ok sc_group (fun vs H Q E h => ?_) (fun A outer s H vs Q E hr h => ?_)
  · obtain ⟨v, g, rfl, _⟩ := h
    rfl
  · obtain ⟨v, g, rfl, ov, G, hT, k⟩ := h
    have nd := sc_group.nd
    have nd1 : (["name"] : List Str).Nodup := by decide +kernel
    refine ⟨_, pss_cons (ps_if (pt_not (pt_val (pe_call (ok_tup T) (hr.mono (by decide)) rfl T.g_is_tuple T.U_is_tuple.kp T.b_is_tuple .nil pass0 (pa_cons (pv 0) (pa_cons pe_int (pa_cons pe_int pa_nil))))))
        (pss_one (ps_ret pe_bl))
        (pss_nil))
      (pss_cons (ps_asg (pv 0) (pg_tup rfl (pgs_cons (pg_name (i := 1) nd rfl (.inl rfl)) (pgs_cons (pg_name (i := 2) nd rfl (.inl rfl)) (pgs_cons (pg_name (i := 3) nd rfl (.inl rfl)) (pgs_cons (pg_name (i := 4) nd rfl (.inl rfl)) pgs_nil))))))
      (pss_cons (ps_if (PW.pt (pw_or (pt_not (pt_val (pe_call (ok_tup T) (hr.mono (by decide)) rfl T.g_is_tuple T.U_is_tuple.kp T.b_is_tuple .nil pass0 (pa_cons (pv 1) (pa_cons pe_int (pa_cons (pe_glob (v := .int 3) rfl T.g_MOST_NAMES ⟨_, rfl⟩) pa_nil)))))) (pw_or1 (pt_not (pt_val (pe_allX (k := 4) (N' := ["name"]) hr (by rfl) T.all TF.g rfl (gxS_by (sc := defScope s_is_group) (by decide +kernel)) cap_none (pi_tup (pv 1))
          (fun _ _ _ _ _ _ _ => pg_name (i := 0) nd1 rfl (.inl rfl))
          (fun _ _ _ _ _ _ hr' => pe_call (ok_caller T TF) (hr'.mono (by decide)) rfl T.g_is_caller T.U_is_caller.kp T.b_is_caller .nil pass0 (pa_cons (pv 0) pa_nil)) (fun _ => rfl)))))))
        (pss_one (ps_ret pe_bl))
        (pss_nil))
      (pss_one (ps_ret (pe_and (pe_call (ok_paths T TB) hr rfl T.g_are_paths T.U_are_paths.kp T.b_are_paths .nil pass0 (pa_cons (pv 2) pa_nil)) (pe_and (pe_call (ok_lims T TF.l) hr rfl T.g_are_limits T.V_are_limits.kp T.b_are_limits .nil pass0 (pa_cons (pv 3) pa_nil)) (pe_one (pe_call (ok_hours T TF.l) hr rfl T.g_are_hours T.V_are_hours.kp T.b_are_hours .nil pass0 (pa_cons (pv 4) pa_nil))))))))), ?_⟩
    obtain ⟨a, xs, rfl, ea, oa⟩ := od_tup (show Od H v (.tuple [.tuple (g.names.map .str), .tuple (g.rows.map rowP), .tuple (g.lim.map prD), .tuple (g.hrs.map .int)]) from ov)
    obtain ⟨x1, x2, x3, x4, rfl, o1, o2, o3, o4⟩ := od4 oa
    obtain ⟨na, nx, rfl, en, on⟩ := od_tup o1
    refine ⟨_, rfl, a, _, 4, 4, rfl, ea, (by show (4 : Int) ≤ 4; decide), (by show (4 : Int) ≤ 4; decide), _, rfl, iteF (next_of ?_)⟩
    refine ⟨_, rfl, a, _, rfl, SqT.of ea, rfl, ?_⟩
    refine ⟨_, _, rfl, _, _, rfl, _, _, rfl, _, _, rfl, rfl, ?_⟩
    have ln : nx.length = g.names.length := by have := on.len; rw [List.length_map] at this; exact this
    have hn0 := G.n0
    have hn1 := G.n1
    refine ⟨_, rfl, na, nx, 1, 3, rfl, en, by omega, by omega, _, rfl, iteF ?_⟩
    refine ⟨_, rfl, na, rfl, ⟨_, SqT.of en⟩, ?_⟩
    refine ⟨nx.length, fun _ => true, fun i σ' H' => (∃ v0, σ' = [v0]) ∧ U3 T H H', ⟨hT.g, fun H2 t2 => ⟨⟨none, rfl⟩, U3.tab' hT.t TF.r2 hT.g t2⟩, ?_, ?_⟩, ?_⟩
    · rintro i σ' H' hi ⟨⟨v0, rfl⟩, u⟩
      have st := SqT.of (K := K) (u.2 _ _ en (fun _ q => nomatch q))
      refine ⟨⟨nx, nx[i], st, List.getElem?_eq_getElem hi⟩, ?_⟩
      rintro x H5 ⟨rfl, hy⟩
      have hx := hy nx st
      obtain ⟨z', hz', oz⟩ := OdAll.get on (i := i) (d := .str g.names[i]) (by rw [List.getElem?_map, List.getElem?_eq_getElem (by omega)]; rfl)
      rw [hz'] at hx
      cases hx
      cases oz
      have hc := G.nm _ (List.getElem_mem (show i < g.names.length by omega))
      refine ⟨_, rfl, _, rfl, by have := caller_len hc; omega, U3.t8 hT u, fun H7 u7 => ⟨congrArg V.bl hc, ⟨_, rfl⟩, u.trans u7⟩⟩
    · rintro σ' H' ⟨_, u⟩
      exact ⟨nx, SqT.of (u.2 _ _ en (fun _ q => nomatch q)), Nat.le_refl _⟩
    · rintro i σ' H1 hi ⟨_, u⟩
      refine ⟨true, congrArg V.bl (List.all_eq_true.mpr fun _ _ => rfl), iteF (next_of ?_)⟩
      have t8 := U3.t8 hT u
      refine ⟨_, rfl, x2, g.rows, rfl, o2.stay u.2, G.rows, t8.t.1, fun H2 u2 => ⟨true, rfl, iteT ?_⟩⟩
      have v2 := U3.up TR t8.t u2
      have t9 := U3.t8 t8 v2
      refine ⟨_, rfl, x3, _, rfl, o3.stay (u.2.trans v2.2), trivial, t9.l, fun H3 u3 => ⟨true, congrArg V.bl (lim_ok G.lim), iteT ?_⟩⟩
      have v3 := U3.upl t9.t (TF.nl) t9.l u3
      have t10 := U3.t8 t9 v3
      refine ⟨_, rfl, x4, _, rfl, o4.stay (u.2.trans (v2.2.trans v3.2)), trivial, t10.l, fun H4 u4 => ?_⟩
      rw [hours_ok G.hrs]
      exact k H4 (u.trans (v2.trans (v3.trans (U3.upl t10.t TF.nl t10.l u4))))
end
end KP

set_option Elab.async false
set_option maxRecDepth 100000
set_option maxHeartbeats 4000000
set_option linter.all false
/-! Ours: files that are right. -/
namespace KP
open PySem PySem.Spec PyProof.Rows L2 Gr GxR PM
def fileD (gs : List Grp) : PyData := .tuple (gs.map grpD)
structure FileR (gs : List Grp) : Prop where
  len : gs.length ≤ 4
  grp : ∀ g ∈ gs, GrpR g
  one : (gs.flatMap Grp.names).Nodup
/-- the names that were met -/
def dk (l : List Str) : List (Key × V) := l.map fun z => (Sum.inr z, V.bl true)
theorem dk_none {l : List Str} {z : Str} (h : z ∉ l) : valV (dk l) (Sum.inr z) = none := by
  induction l with
  | nil => rfl
  | cons y l ih =>
    have h1 : ¬ ((Sum.inr y : Key) = Sum.inr z) := fun e => h (by cases e; exact List.mem_cons_self)
    show valV ((Sum.inr y, V.bl true) :: dk l) (Sum.inr z) = none
    rw [valV_neg (p := ((Sum.inr y : Key), V.bl true)) h1]
    exact ih fun q => h (List.mem_cons_of_mem _ q)
theorem dk_put {l : List Str} {z : Str} (h : z ∉ l) : putK (dk l) (Sum.inr z) (.bl true) = dk (l ++ [z]) := by
  unfold putK
  rw [if_neg]
  · unfold dk
    rw [List.map_append]
    rfl
  · rw [Bool.not_eq_true, List.any_eq_false]
    intro p hp q
    obtain ⟨y, hy, rfl⟩ := List.mem_map.mp hp
    have e := of_decide_eq_true q
    cases e
    exact h hy
theorem U3.putD {K : PySem.W.Frag} {mg : Str → Option Value} {T : D K mg} {H H1 : Hp} {a : Addr} {kvs kvs' : List (Key × V)} (u : U3 T H H1) (n : H a = none) (e : H1 a = some (.dK kvs)) : U3 T H (upd H1 a (.dK kvs')) := by
  have tb : ∀ p, TabG H1 p → TabG (upd H1 a (.dK kvs')) p := fun p ⟨ps, e1, t⟩ => ⟨ps, (upd_ne fun z => by rw [z, e] at e1; cases e1).trans e1, t⟩
  obtain ⟨⟨⟨t1, t2⟩, ps, e1, t, c⟩, st, tab⟩ := u
  refine ⟨⟨⟨tb _ t1, tb _ t2⟩, ps, (upd_ne fun z => by rw [z, e] at e1; cases e1).trans e1, t, fun pos cv hc => ?_⟩, fun x o q m => ?_, fun p hp => tb p (tab p hp)⟩
  · obtain ⟨c', q1, q2⟩ := c pos cv hc
    refine ⟨c', q1, (upd_ne fun z => ?_).trans q2⟩
    rw [z, e] at q2
    unfold LamX.CodeO at q2
    cases q2
  · rw [upd_ne fun z => by rw [z, n] at q; cases q]
    exact st x o q m
def spFaultF {K : PySem.W.Frag} {mg : Str → Option Value} (T : D K mg) : Sp := fun vs H Q _ => ∃ v gs, vs = [v] ∧ Od H v (fileD gs) ∧ FileR gs ∧ T8 T H ∧ ∀ a H', U3 T H H' → H' a = some (.tup []) → Q (.ref a) H'
def spChkFile {K : PySem.W.Frag} {mg : Str → Option Value} (T : D K mg) : Sp := fun vs H Q _ => ∃ v gs, vs = [v] ∧ Od H v (fileD gs) ∧ FileR gs ∧ T8 T H ∧ ∀ H', U3 T H H' → Q .non H'
/-- the names of the first groups and of the first names of the next -/
theorem one_at {gs : List Grp} (R : FileR gs) {j i : Nat} (hj : j < gs.length) (hi : i < gs[j].names.length) : gs[j].names[i] ∉ (gs.take j).flatMap Grp.names ++ gs[j].names.take i := by
  have h := R.one
  have e : gs = gs.take j ++ (gs[j] :: gs.drop (j + 1)) := by
    rw [← List.drop_eq_getElem_cons hj, List.take_append_drop]
  have e2 : gs[j].names = gs[j].names.take i ++ (gs[j].names[i] :: gs[j].names.drop (i + 1)) := by
    rw [← List.drop_eq_getElem_cons hi, List.take_append_drop]
  rw [e, List.flatMap_append, List.flatMap_cons, e2, ← List.append_assoc, ← List.append_assoc] at h
  intro q
  have := (List.nodup_append.mp (List.append_assoc .. ▸ h : ((((gs.take j).flatMap Grp.names ++ gs[j].names.take i) ++ (gs[j].names[i] :: gs[j].names.drop (i + 1) ++ (gs.drop (j + 1)).flatMap Grp.names))).Nodup)).2.2
  exact this _ q _ (List.mem_append_left _ List.mem_cons_self) rfl
section
variable {P : Program} {w : World} {K : PySem.W.Frag} {mg : Str → Option Value} {base : Heap}
theorem sc_faultf : FnScope ["value", "told", "index", "group", "name"] ["value"] (defScope s_fault_in_file) := ⟨rfl, rfl, rfl, by decide +kernel, rfl, by decide +kernel, by decide +kernel⟩
theorem ok_faultf (T : D K mg) (TB : Tabs base T) (TR : TabR base T) (TF : TabF base T) : FnOk P w K mg base CX0 7 T.f_fault_in_file T.d_fault_in_file ["value"] (spFaultF T) := by
  refine T.U_fault_in_file.ok sc_faultf (fun vs H Q E h => ?_) (fun cdv A outer s H vs Q E hr h => ?_)
  · obtain ⟨v, gs, rfl, _⟩ := h
    rfl
  · obtain ⟨v, gs, rfl, ov, R, hT, k⟩ := h
    have nd := sc_faultf.nd
    have hu := hu_of hr
    have mz : 5000 ≤ sizeLine := by decide
    refine ⟨_, pss_cons (ps_if (pt_not (pt_val (pe_call (ok_tup T) (hr.mono (by decide)) rfl T.g_is_tuple T.U_is_tuple.kp T.b_is_tuple .nil pass0 (pa_cons (pv 0) (pa_cons pe_int (pa_cons (pe_glob (v := .int 4) rfl T.g_MOST_GROUPS ⟨_, rfl⟩) pa_nil))))))
        (pss_one (ps_ret (pe_tup (pa_cons pe_non pa_nil))))
        (pss_nil))
      (pss_cons (ps_set (i := 1) nd rfl (.inl rfl) pe_dnewK)
      (pss_cons (ps_for PassesOwn.never rfl (pi_enumT (by rfl) T.enumerate (pa_cons (pv 0) pa_nil)) (pg_tup rfl (pgs_cons (pg_name (i := 2) nd rfl (.inl rfl)) (pgs_cons (pg_name (i := 3) nd rfl (.inl rfl)) pgs_nil)))
        (pss_cons (ps_if (pt_not (pt_val (pe_call (ok_group T TB TR TF) hr rfl T.g_is_group T.V_is_group.kp T.b_is_group .nil pass0 (pa_cons (pv 3) pa_nil))))
          (pss_one (ps_ret (pe_tup (pa_cons (pv 2) pa_nil))))
          (pss_nil))
        (pss_one (ps_for PassesOwn.never rfl (pi_tup (pe_ix ix_tup (pv 3) pe_int (fun _ _ => rfl))) (pg_name (i := 4) nd rfl (.inl rfl))
          (pss_cons (ps_if (pt_cmp (pc_din hu (pv 4) (pv 1)) rfl)
            (pss_one (ps_ret (pe_tup (pa_cons (pv 2) pa_nil))))
            (pss_nil))
          (pss_one (ps_dput hu (pv 1) (pv 4) pe_bl rfl)))))))
      (pss_one (ps_ret (pe_tup pa_nil))))), ?_⟩
    obtain ⟨a, xs, rfl, ea, oa⟩ := od_tup ov
    have lx : xs.length = gs.length := by rw [oa.len, List.length_map]
    have l4 := R.len
    refine ⟨_, rfl, a, xs, 0, 4, rfl, ea, by omega, by omega, _, rfl, iteF (next_of ?_)⟩
    dsimp only
    intro Dt hDt
    dsimp only
    have u0 : U3 T H (upd H Dt (.dK [])) := U3.same hT.t (same_upd hDt)
    refine ⟨_, rfl, a, xs, rfl, SqT.of (u0.2 _ _ ea (fun _ z => nomatch z)), for_it (walk_tp (K := K) (a := a) (xs := xs)) (fun j σ H2 => U3 T H H2 ∧ H2 Dt = some (.dK (dk ((gs.take j).flatMap Grp.names))) ∧ ∃ (v2 v3 v4 : Option V), σ = [some (.ref a), some (.ref Dt), v2, v3, v4]) ⟨u0, upd_same, none, none, none, rfl⟩ (fun i σ H2 _ q => SqT.of (q.1.2 _ _ ea fun _ z => nomatch z)) ?_ ?_⟩
    · rintro j x σ H2 H3 hi ⟨u2, eD, v2, v3, v4, rfl⟩ ⟨Tt, y, rfl, hTn, rfl, hy⟩
      obtain ⟨d, hd, oy⟩ := od_at oa hy
      rw [List.getElem?_map] at hd
      obtain ⟨g, hgj, rfl⟩ := Option.map_eq_some_iff.mp hd
      have hgm := List.mem_of_getElem? hgj
      have s3 := same_upd (o := HO.tup [V.int (j : Nat), y]) hTn
      have u3 := u2.trans (.same u2.1 s3)
      have eD3 := s3 _ _ eD
      refine ⟨_, _, rfl, SqT.of upd_same, rfl, _, _, rfl, _, _, rfl, rfl, ?_⟩
      dsimp only
      have oy3 := (oy.stay u2.2).same s3
      refine ⟨_, rfl, y, g, rfl, oy3, R.grp g hgm, U3.t8 hT u3, fun H4 u4 => ⟨_, rfl, iteF (next_of ?_)⟩⟩
      have u34 := u3.trans u4
      have eD4 := u4.2 _ _ eD3 (fun _ z => nomatch z)
      obtain ⟨b, ys, rfl, eb0, ob⟩ := od_tup (show Od H y (.tuple [.tuple (g.names.map .str), .tuple (g.rows.map rowP), .tuple (g.lim.map prD), .tuple (g.hrs.map .int)]) from oy)
      obtain ⟨x1, x2, x3, x4, rfl, o1, o2, o3, o4⟩ := od4 ob
      have eb := u34.2 _ _ eb0 (fun _ z => nomatch z)
      obtain ⟨na, nx, rfl, en, on⟩ := od_tup o1
      have hjl : j < gs.length := by rw [← lx]; exact hi
      have egj : gs[j] = g := by
        rw [List.getElem?_eq_getElem hjl] at hgj
        exact Option.some.inj hgj
      have ln : nx.length = g.names.length := by have := on.len; rw [List.length_map] at this; exact this
      refine ⟨_, rfl, b, _, 0, _, rfl, rfl, SqT.of eb, rfl, na, rfl, ⟨nx, SqT.of (u34.2 _ _ en (fun _ z => nomatch z))⟩, for_tup (xs := nx) (fun i σ H5 => U3 T H H5 ∧ H5 Dt = some (.dK (dk ((gs.take j).flatMap Grp.names ++ g.names.take i))) ∧ ∃ v4, σ = [some (.ref a), some (.ref Dt), some (.int (j : Nat)), some (.ref b), v4])
        ⟨u34, by rw [List.take_zero, List.append_nil]; exact eD4, _, rfl⟩ (fun i σ H5 _ q => SqT.of (q.1.2 _ _ en fun _ z => nomatch z)) ?_ ?_⟩
      · rintro i x σ H5 hx ⟨w5, eD5, v4', rfl⟩
        have hil : i < nx.length := (List.getElem?_eq_some_iff.mp hx).1
        have hig : i < g.names.length := by omega
        obtain ⟨z', hz', oz⟩ := OdAll.get on (i := i) (d := .str g.names[i]) (by rw [List.getElem?_map, List.getElem?_eq_getElem hig]; rfl)
        rw [hz'] at hx
        cases hx
        cases oz
        have hn : g.names[i] ∉ (gs.take j).flatMap Grp.names ++ g.names.take i := by
          have := one_at R (j := j) (i := i) hjl (by rw [egj]; exact hig)
          simpa only [egj] using this
        have gt : DGet H5 Dt (.str g.names[i]) none := by
          have q := DGet.k (k := (Sum.inr g.names[i] : Key)) eD5
          rw [dk_none hn] at q
          exact q
        refine ⟨_, rfl, _, rfl, Dt, none, rfl, gt, _, rfl, iteF (next_of ?_)⟩
        have hlen : (dk ((gs.take j).flatMap Grp.names ++ g.names.take i)).length < sizeLine := by
          unfold dk
          rw [List.length_map, List.length_append, List.length_take]
          have h3 : ((gs.take j).flatMap Grp.names).length ≤ 3 * (gs.take j).length := by
            have : ∀ l : List Grp, (∀ g ∈ l, g.names.length ≤ 3) → (l.flatMap Grp.names).length ≤ 3 * l.length := by
              intro l
              induction l with
              | nil => intro _; exact Nat.le_refl _
              | cons y l ih =>
                intro h
                rw [List.flatMap_cons, List.length_append, List.length_cons]
                have h1 := h y List.mem_cons_self
                have h2 := ih fun g hg => h g (List.mem_cons_of_mem _ hg)
                omega
            exact this _ fun g hg => (R.grp g (List.mem_of_mem_take hg)).n1
          rw [List.length_take] at h3
          have := (R.grp g hgm).n1
          omega
        refine ⟨_, rfl, _, rfl, Dt, _, rfl, DPut.k (k := (Sum.inr g.names[i] : Key)) eD5 hlen, w5.putD hDt eD5, ?_, _, rfl⟩
        rw [dk_put hn, upd_same, List.take_add_one, List.getElem?_eq_getElem hig, ← List.append_assoc]
        rfl
      · rintro σ H5 ⟨w5, eD5, v4', rfl⟩
        refine ⟨w5, ?_, _, _, _, rfl⟩
        rw [List.take_add_one, List.getElem?_eq_getElem hjl, egj, List.flatMap_append]
        rw [ln, List.take_length] at eD5
        rw [eD5]
        show _ = some (HO.dK (dk (_ ++ (g.names ++ []))))
        rw [List.append_nil]
    · rintro σ H2 ⟨u2, eD, v2, v3, v4, rfl⟩
      exact ⟨by show 0 ≤ sizeLine; omega, fun p hp => k p _ (u2.trans (.same u2.1 (same_upd hp))) upd_same⟩
theorem sc_chkfile : FnScope ["given", "fault"] ["given"] (defScope s_check_file) := ⟨rfl, rfl, rfl, by decide +kernel, rfl, by decide +kernel, by decide +kernel⟩
theorem ok_chkfile (T : D K mg) (TB : Tabs base T) (TR : TabR base T) (TF : TabF base T) : FnOk P w K mg base CX0 8 T.f_check_file T.d_check_file ["given"] (spChkFile T) := by
  refine T.U_check_file.ok sc_chkfile (fun vs H Q E h => ?_) (fun cdv A outer s H vs Q E hr h => ?_)
  · obtain ⟨v, gs, rfl, _⟩ := h
    rfl
  · obtain ⟨v, gs, rfl, ov, R, hT, k⟩ := h
    have nd := sc_chkfile.nd
    refine ⟨_, pss_cons (ps_set (i := 1) nd rfl (.inl rfl) (pe_call (ok_faultf T TB TR TF) hr rfl T.g_fault_in_file T.U_fault_in_file.kp T.b_fault_in_file .nil pass0 (pa_cons (pv 0) pa_nil)))
      (pss_one (ps_if (pt_truth (pv 1) (by intro _; rfl))
        (pss_one (ps_never))
        (pss_nil))), ?_⟩
    refine ⟨_, rfl, v, gs, rfl, ov, R, hT, fun a H' u e => gn ?_⟩
    dsimp only
    refine ⟨_, rfl, false, .inr (.inl ⟨[], SqT.of e, rfl⟩), iteF ?_⟩
    exact k H' u
end
end KP

set_option Elab.async false
set_option maxRecDepth 100000
set_option maxHeartbeats 4000000
set_option linter.all false
/-! Ours: the group of a crawler. -/
namespace KP
open PySem PySem.Spec PyProof.Rows L2 Gr GxR PM
def startOf (z : Str) : Str := if z = "*" then "" else z
theorem start_if {z : Str} {A : V → Prop} (h : A (.str (startOf z))) : if decide (V.str z = V.str "*") = true then A (.str "") else ∃ v, (some (some (V.str z)) : Option (Option V)) = some (some v) ∧ A v := by
  rw [str_eqB]
  unfold startOf at h
  split
  · rename_i q
    rw [if_pos (beq_iff_eq.mp q)] at h
    exact h
  · rename_i q
    rw [if_neg fun e => q (beq_iff_eq.mpr e)] at h
    exact ⟨_, rfl, h⟩
def gstep (c : Str) (i : Nat) (s : Option Nat × Int) (z : Str) : Option Nat × Int := if (Txt.startswith c (startOf z) && decide (s.2 < ((startOf z).length : Nat))) = true then (some i, ((startOf z).length : Nat)) else s
def accG (c : Str) (gs : List Grp) : Nat → Option Nat × Int
  | 0 => (none, -1)
  | j + 1 => match gs[j]? with
    | some g => g.names.foldl (gstep c j) (accG c gs j)
    | none => accG c gs j
def groupI (gs : List Grp) (c : Str) : Option Nat := (accG c gs gs.length).1
def spGroupOf {K : PySem.W.Frag} {mg : Str → Option Value} (T : D K mg) : Sp := fun vs H Q _ => ∃ v gs c, vs = [v, .str c] ∧ Od H v (fileD gs) ∧ FileR gs ∧ isName c = true ∧ T8 T H ∧ ∀ H', U3 T H H' → Q (optN (groupI gs c)) H'
section
variable {P : Program} {w : World} {K : PySem.W.Frag} {mg : Str → Option Value} {base : Heap}
theorem sc_groupof : FnScope ["file", "crawler", "best", "length", "index", "group", "name", "start"] ["file", "crawler"] (defScope s_group_of) := ⟨rfl, rfl, rfl, by decide +kernel, rfl, by decide +kernel, by decide +kernel⟩
theorem ok_groupof (T : D K mg) (TB : Tabs base T) (TR : TabR base T) (TF : TabF base T) : FnOk P w K mg base CX0 9 T.f_group_of T.d_group_of ["file", "crawler"] (spGroupOf T) := by
  refine T.U_group_of.ok sc_groupof (fun vs H Q E h => ?_) (fun cdv A outer s H vs Q E hr h => ?_)
  · obtain ⟨v, gs, c, rfl, _⟩ := h
    rfl
  · obtain ⟨v, gs, c, rfl, ov, R, hc, hT, k⟩ := h
    have nd := sc_groupof.nd
    refine ⟨_, pss_cons (ps_expr (pe_call (ok_chkfile T TB TR TF) hr rfl T.g_check_file T.U_check_file.kp T.b_check_file .nil pass0 (pa_cons (pv 0) pa_nil)))
      (pss_cons (ps_expr (pe_call (ok_chkname T TF) (hr.mono (by decide)) rfl T.g_check_name T.U_check_name.kp T.b_check_name .nil pass0 (pa_cons (pv 1) pa_nil)))
      (pss_cons (ps_set (i := 2) nd rfl (.inl rfl) pe_non)
      (pss_cons (ps_set (i := 3) nd rfl (.inl rfl) (pe_un un_neg pe_int))
      (pss_cons (ps_for PassesOwn.never rfl (pi_enumT (by rfl) T.enumerate (pa_cons (pv 0) pa_nil)) (pg_tup rfl (pgs_cons (pg_name (i := 4) nd rfl (.inl rfl)) (pgs_cons (pg_name (i := 5) nd rfl (.inl rfl)) pgs_nil)))
        (pss_one (ps_for PassesOwn.never rfl (pi_tup (pe_ix ix_tup (pv 5) pe_int (fun _ _ => rfl))) (pg_name (i := 6) nd rfl (.inl rfl))
          (pss_cons (ps_set (i := 7) nd rfl (.inl rfl) (pe_ifExp (pt_cmpR op_eq (pv 6) (pe_glob (v := .str "*") rfl T.g_ANYONE ⟨_, rfl⟩) (nomark _)) pe_str (pv 6)))
          (pss_one (ps_if (PW.pt (pw_and (pt_val (pe_m1 PySem.F.slot_str_startswith PySem.F.type_str_startswith mt_startswith (pv 1) (pv 7))) (pw_and1 (pt_cmpR op_gt (pe_callB call_len_str (by rfl) T.len PySem.boot_len (pa_cons (pv 7) pa_nil)) (pv 3) (nomark _)))))
            (pss_cons (ps_set (i := 2) nd rfl (.inl rfl) (pv 4))
            (pss_one (ps_set (i := 3) nd rfl (.inl rfl) (pe_callB call_len_str (by rfl) T.len PySem.boot_len (pa_cons (pv 7) pa_nil)))))
            (pss_nil)))))))
      (pss_one (ps_ret (pv 2))))))), ?_⟩
    refine ⟨_, rfl, v, gs, rfl, ov, R, hT, fun H1 u1 => ?_⟩
    refine ⟨_, rfl, c, rfl, hc, U3.t8 hT u1, fun H2 u2 => ?_⟩
    dsimp only
    refine gn ?_
    dsimp only
    refine ⟨1, rfl, gn ?_⟩
    dsimp only
    have v2 := u1.trans u2
    obtain ⟨a, xs, rfl, ea, oa⟩ := od_tup ov
    have lx : xs.length = gs.length := by rw [oa.len, List.length_map]
    refine ⟨_, rfl, a, xs, rfl, SqT.of (v2.2 _ _ ea (fun _ z => nomatch z)), for_it (walk_tp (K := K) (a := a) (xs := xs)) (fun j σ H3 => U3 T H H3 ∧ ∃ (v4 v5 v6 v7 : Option V), σ = [some (.ref a), some (.str c), some (optN (accG c gs j).1), some (.int (accG c gs j).2), v4, v5, v6, v7]) ⟨v2, none, none, none, none, rfl⟩ (fun i σ H3 _ q => SqT.of (q.1.2 _ _ ea fun _ z => nomatch z)) ?_ ?_⟩
    · rintro j x σ H2 H3 hi ⟨w2, v4, v5, v6, v7, rfl⟩ ⟨Tt, y, rfl, hTn, rfl, hy⟩
      obtain ⟨d, hd, oy⟩ := od_at oa hy
      rw [List.getElem?_map] at hd
      obtain ⟨g, hgj, rfl⟩ := Option.map_eq_some_iff.mp hd
      have s3 := same_upd (o := HO.tup [V.int (j : Nat), y]) hTn
      have u3 := w2.trans (.same w2.1 s3)
      refine ⟨_, _, rfl, SqT.of upd_same, rfl, _, _, rfl, _, _, rfl, rfl, ?_⟩
      dsimp only
      obtain ⟨b, ys, rfl, eb0, ob⟩ := od_tup (show Od H y (.tuple [.tuple (g.names.map .str), .tuple (g.rows.map rowP), .tuple (g.lim.map prD), .tuple (g.hrs.map .int)]) from oy)
      obtain ⟨x1, x2, x3, x4, rfl, o1, o2, o3, o4⟩ := od4 ob
      have eb := u3.2 _ _ eb0 (fun _ z => nomatch z)
      obtain ⟨na, nx, rfl, en, on⟩ := od_tup o1
      have ln : nx.length = g.names.length := by have := on.len; rw [List.length_map] at this; exact this
      refine ⟨_, rfl, b, _, 0, _, rfl, rfl, SqT.of eb, rfl, na, rfl, ⟨nx, SqT.of (u3.2 _ _ en (fun _ z => nomatch z))⟩, for_tup (xs := nx) (fun i σ H5 => U3 T H H5 ∧ ∃ (v6 v7 : Option V), σ = [some (.ref a), some (.str c), some (optN ((g.names.take i).foldl (gstep c j) (accG c gs j)).1), some (.int ((g.names.take i).foldl (gstep c j) (accG c gs j)).2), some (.int (j : Nat)), some (.ref b), v6, v7])
        ⟨u3, _, _, rfl⟩ (fun i σ H5 _ q => SqT.of (q.1.2 _ _ en fun _ z => nomatch z)) ?_ ?_⟩
      · rintro i x σ H5 hx ⟨w5, v6', v7', rfl⟩
        have hil : i < nx.length := (List.getElem?_eq_some_iff.mp hx).1
        have hig : i < g.names.length := by omega
        obtain ⟨z', hz', oz⟩ := OdAll.get on (i := i) (d := .str g.names[i]) (by rw [List.getElem?_map, List.getElem?_eq_getElem hig]; rfl)
        rw [hz'] at hx
        cases hx
        cases oz
        have et : (g.names.take (i + 1)).foldl (gstep c j) (accG c gs j) = gstep c j ((g.names.take i).foldl (gstep c j) (accG c gs j)) g.names[i] := by
          rw [List.take_add_one, List.getElem?_eq_getElem hig, List.foldl_append]
          rfl
        generalize hs : (g.names.take i).foldl (gstep c j) (accG c gs j) = st at et ⊢
        have hcz := caller_len ((R.grp g (List.mem_of_getElem? hgj)).nm _ (List.getElem_mem hig))
        generalize g.names[i] = z at et hcz ⊢
        have hsl : (startOf z).length ≤ sizeLine := by
          unfold startOf
          split
          · show 0 ≤ sizeLine
            omega
          · have mz : 5000 ≤ sizeLine := by decide
            omega
        refine gn ?_
        dsimp only
        refine ⟨_, rfl, rfl, _, rfl, start_if (gn ?_)⟩
        dsimp only
        refine ⟨_, rfl, ⟨c, rfl⟩, _, rfl, c, _, rfl, rfl, _, rfl, ?_⟩
        cases hq : Txt.startswith c (startOf z) with
        | false =>
          refine iteF (next_of ?_)
          refine ⟨w5, some (.str z), some (.str (startOf z)), ?_⟩
          have e2 : gstep c j st z = st := by
            unfold gstep
            rw [hq, Bool.false_and, if_neg Bool.false_ne_true]
          rw [et, e2]
          rfl
        | true =>
          refine iteT ⟨_, rfl, startOf z, rfl, hsl, _, rfl, _, _, rfl, rfl, _, rfl, ?_⟩
          cases hd : decide (st.2 < ((startOf z).length : Nat)) with
          | false =>
            refine iteF (next_of ?_)
            refine ⟨w5, some (.str z), some (.str (startOf z)), ?_⟩
            have e2 : gstep c j st z = st := by
              unfold gstep
              rw [hd, Bool.and_false, if_neg Bool.false_ne_true]
            rw [et, e2]
            rfl
          | true =>
            refine iteT ⟨_, rfl, gn ⟨_, rfl, startOf z, rfl, hsl, gn ?_⟩⟩
            refine ⟨w5, some (.str z), some (.str (startOf z)), ?_⟩
            have e2 : gstep c j st z = (some j, (((startOf z).length : Nat) : Int)) := by
              unfold gstep
              rw [hq, hd]
              rfl
            rw [et, e2]
            rfl
      · rintro σ H5 ⟨w5, v6', v7', rfl⟩
        refine ⟨w5, some (.int (j : Nat)), some (.ref b), v6', v7', ?_⟩
        have e2 : accG c gs (j + 1) = g.names.foldl (gstep c j) (accG c gs j) := by
          show (match gs[j]? with | some g => g.names.foldl (gstep c j) (accG c gs j) | none => accG c gs j) = _
          rw [hgj]
        rw [e2, ln, List.take_length]
    · rintro σ H2 ⟨w2, v4, v5, v6, v7, rfl⟩
      refine ⟨_, rfl, ?_⟩
      rw [lx]
      exact k H2 w2
end
end KP

set_option Elab.async false
set_option maxRecDepth 100000
set_option maxHeartbeats 4000000
set_option linter.all false
/-! Ours: min(numbers, default=None). -/
namespace Gr
open PySem PySem.Spec PyProof.Rows L2 GxR
def minV : List Int → V
  | [] => .non
  | n :: ns => .int (ns.foldl min n)
def rMinDef (K : PySem.W.Frag) : List V → List V → Hp → VK → Prop := fun vs zs H Q => ∃ (a : Addr) (ns : List Int) (_k : Int), vs = [.ref a] ∧ zs = [.non] ∧ SqL K H a (ns.map V.int) ∧ Q (minV ns) H
theorem call_minDef {X : Cx} (hd : X.A.handled = none) (hu : X.A.units + 64 < cLine) : CallRK X (.builtin "min") [("default" : Str)] (rMinDef X.K) := by
  intro pins s σ H xs zs us ws Q I rx rz h
  obtain ⟨a, ns, k, rfl, rfl, hS, q⟩ := h
  obtain ⟨u, rfl, ru⟩ := vals1 rx
  obtain ⟨uw, rfl, rw2⟩ := vals1 rz
  cases ru
  cases rw2
  obtain ⟨its, rv, pl, hz⟩ := I.list hS
  obtain ⟨as, ra⟩ := ints_reads (h := s.heap) rv
  refine PySem.W.min_list_default (xs := ns.map PyData.int) (d := .none) hd pl.isList (by exact ra) (ints_alike ns) (by have := ints_depth ns; omega) (fun e h' tk hk => ?_) (fun y ys i v h' tk bs e hv hr hk => ?_)
  · cases ns with
    | nil => exact ⟨.non, H, I.kept (t' := tk) hk, rfl, q⟩
    | cons n l => cases e
  · cases ns with
    | nil => cases e
    | cons n l =>
      have e1 : y = .int n := (List.cons.inj e).1.symm
      have e2 : ys = l.map PyData.int := (List.cons.inj e).2.symm
      subst e1
      subst e2
      rw [PySem.W.minD_ints] at hr
      cases hr
      exact ⟨.int _, H, I.kept (t' := tk) hk, ⟨_, rfl⟩, q⟩
end Gr

set_option Elab.async false
set_option maxRecDepth 100000
set_option maxHeartbeats 4000000
set_option linter.all false
/-! Ours: tracked tuples joined and cut, told without cases; the same within a comprehension. -/
namespace Gr
open PySem PySem.Spec PyProof.Rows L2 GxR
theorem op_catAB {X : Cx} {s : Shared} {H : Hp} {sc : Scope} {en : Env} {fp : List Addr} : OpR (X.blk s H sc en fp) (binaryOp .Add) (rCatA X.K) := op_catA
/-- two tracked tuples joined -/
theorem cat_tt {K : PySem.W.Frag} {H : Hp} {a b : Addr} {xs ys : List V} {Q : VK} (ha : H a = some (.tup xs)) (hb : H b = some (.tup ys)) (hl : xs.length + ys.length ≤ sizeLine) (k : ∀ p H', Same H H' → H' p = some (.tup (xs ++ ys)) → Q (.ref p) H') : rCatA K (.ref a) (.ref b) H Q := by
  refine ⟨a, b, xs, ys, rfl, rfl, SqT.of ha, SqT.of hb, hl, fun z => ?_, fun _ z => ?_, fun _ _ p hp => k p _ (same_upd hp) upd_same⟩
  · subst z
    exact k b H (.refl H) hb
  · subst z
    exact k a H (.refl H) (by rw [List.append_nil]; exact ha)
/-- the first w of a tracked tuple -/
theorem slice_tt {K : PySem.W.Frag} {H : Hp} {a : Addr} {xs : List V} {w : Int} {Q : VK} (hw : 0 ≤ w) (ha : H a = some (.tup xs)) (k : ∀ p H', Same H H' → H' p = some (.tup (xs.take w.toNat)) → Q (.ref p) H') : rSlA K (.ref a) none (some w) H Q := by
  have e1 : HT.sIx xs.length xs.length (some w) = min w.toNat xs.length := by
    show (if w < 0 then (w + ((xs.length : Nat) : Int)).toNat else min w.toNat xs.length) = _
    rw [if_neg (by omega)]
  have e0 : HT.sIx xs.length 0 none = 0 := HT.sIx_none _ _
  refine ⟨a, xs, rfl, SqT.of ha, fun z => ?_, fun _ p hp => k p _ (same_upd hp) ?_⟩
  · rw [e1] at z
    exact k a H (.refl H) (by rw [List.take_of_length_le (by omega)]; exact ha)
  · rw [upd_same]
    unfold cutV
    rw [e0, e1, List.drop_zero, Nat.sub_zero]
    congr 2
    by_cases y : w.toNat ≤ xs.length
    · rw [Nat.min_eq_left y]
    · rw [Nat.min_eq_right (by omega), List.take_of_length_le (Nat.le_refl _), List.take_of_length_le (by omega)]
end Gr

set_option Elab.async false
set_option maxRecDepth 100000
set_option maxHeartbeats 4000000
set_option linter.all false
/-! Ours: what a file says to a crawler. -/
namespace KP
open PySem PySem.Spec PyProof.Rows L2 Gr GxR PM
def rowsOf (gs : List Grp) (c : Str) : List (Str × Str) := match groupI gs c with
  | none => []
  | some i => ((gs[i]?).map Grp.rows).getD []
def limOf (gs : List Grp) (c : Str) : List (Int × Int) := match groupI gs c with
  | none => []
  | some i => ((gs[i]?).map Grp.lim).getD []
def hrsOf (gs : List Grp) (c : Str) : List Int := match groupI gs c with
  | none => [1]
  | some i => ((gs[i]?).map Grp.hrs).getD []
theorem gstep_lt {c : Str} {i n : Nat} (hi : i < n) : ∀ (l : List Str) (s : Option Nat × Int), (∀ j, s.1 = some j → j < n) → ∀ j, (l.foldl (gstep c i) s).1 = some j → j < n
  | [], s, h => h
  | z :: l, s, h => gstep_lt hi l _ fun j e => by
    unfold gstep at e
    split at e
    · cases e
      exact hi
    · exact h j e
theorem accG_lt {c : Str} {gs : List Grp} : ∀ k j, (accG c gs k).1 = some j → j < gs.length
  | 0, j, e => by cases e
  | k + 1, j, e => by
    unfold accG at e
    split at e
    · rename_i g hg
      exact gstep_lt (List.getElem?_eq_some_iff.mp hg).1 _ _ (accG_lt k) j e
    · exact accG_lt k j e
theorem groupI_lt {gs : List Grp} {c : Str} {i : Nat} (h : groupI gs c = some i) : i < gs.length := accG_lt _ _ h
theorem rowsR_nil : RowsR [] := ⟨Nat.zero_le _, fun _ h => (nomatch h), fun _ h => (nomatch h), fun j => by rw [List.take_nil]; decide⟩
theorem rowsOf_ok {gs : List Grp} (R : FileR gs) (c : Str) : RowsR (rowsOf gs c) := by
  unfold rowsOf
  cases h : groupI gs c with
  | none => exact rowsR_nil
  | some i =>
    have hi := groupI_lt h
    show RowsR (((gs[i]?).map Grp.rows).getD [])
    rw [List.getElem?_eq_getElem hi]
    exact (R.grp _ (List.getElem_mem hi)).rows
def spPathsOf {K : PySem.W.Frag} {mg : Str → Option Value} (T : D K mg) : Sp := fun vs H Q _ => ∃ v gs c, vs = [v, .str c] ∧ Od H v (fileD gs) ∧ FileR gs ∧ isName c = true ∧ T8 T H ∧ ∀ x H', U3 T H H' → Od H' x (.tuple ((rowsOf gs c).map rowP)) → Q x H'
def spRulesOf {K : PySem.W.Frag} {mg : Str → Option Value} (T : D K mg) : Sp := fun vs H Q _ => ∃ v gs c, vs = [v, .str c] ∧ Od H v (fileD gs) ∧ FileR gs ∧ isName c = true ∧ T8 T H ∧ ∀ x H', U3 T H H' → Od H' x (.tuple [.tuple ((limOf gs c).map prD), .tuple ((hrsOf gs c).map .int)]) → Q x H'
def spIsLet {K : PySem.W.Frag} {mg : Str → Option Value} (T : D K mg) : Sp := fun vs H Q _ => ∃ v gs c r, vs = [v, .str c, .str r] ∧ Od H v (fileD gs) ∧ FileR gs ∧ isName c = true ∧ isPath r = true ∧ r.length ≤ 1000 ∧ T8 T H ∧ ∀ H', U3 T H H' → Q (.bl (letB (rowsOf gs c) r)) H'
def natD : Option Nat → PyData
  | none => .none
  | some i => .int (i : Nat)
def spReason {K : PySem.W.Frag} {mg : Str → Option Value} (T : D K mg) : Sp := fun vs H Q _ => ∃ v gs c r, vs = [v, .str c, .str r] ∧ Od H v (fileD gs) ∧ FileR gs ∧ isName c = true ∧ isPath r = true ∧ r.length ≤ 1000 ∧ T8 T H ∧ ∀ x H', U3 T H H' → Od H' x (.tuple [natD (groupI gs c), natD (decI (rowsOf gs c) r)]) → Q x H'
theorem optN_od {H : Hp} (o : Option Nat) : Od H (optN o) (natD o) := by
  cases o with
  | none => exact .non
  | some i => exact .int _
section
variable {P : Program} {w : World} {K : PySem.W.Frag} {mg : Str → Option Value} {base : Heap}
theorem sc_pathsof : FnScope ["file", "crawler", "index"] ["file", "crawler"] (defScope s_paths_of) := ⟨rfl, rfl, rfl, by decide +kernel, rfl, by decide +kernel, by decide +kernel⟩
theorem ok_pathsof (T : D K mg) (TB : Tabs base T) (TR : TabR base T) (TF : TabF base T) : FnOk P w K mg base CX0 10 T.f_paths_of T.d_paths_of ["file", "crawler"] (spPathsOf T) := by
  refine T.U_paths_of.ok sc_pathsof (fun vs H Q E h => ?_) (fun cdv A outer s H vs Q E hr h => ?_)
  · obtain ⟨v, gs, c, rfl, _⟩ := h
    rfl
  · obtain ⟨v, gs, c, rfl, ov, R, hc, hT, k⟩ := h
    have nd := sc_pathsof.nd
    refine ⟨_, pss_cons (ps_set (i := 2) nd rfl (.inl rfl) (pe_call (ok_groupof T TB TR TF) hr rfl T.g_group_of T.U_group_of.kp T.b_group_of .nil pass0 (pa_cons (pv 0) (pa_cons (pv 1) pa_nil))))
      (pss_one (ps_ret (pe_ifExp (pt_cmpR op_isN (pv 2) pe_non (nomark _)) (pe_tup pa_nil) (pe_ix ix_tup (pe_ix ix_tup (pv 0) (pv 2) (fun _ _ => rfl)) pe_int (fun _ _ => rfl))))), ?_⟩
    refine ⟨_, rfl, _, rfl, v, gs, c, rfl, ov, R, hc, hT, fun H1 u1 => gn ?_⟩
    dsimp only
    obtain ⟨a, xs, rfl, ea, oa⟩ := od_tup (ov.stay u1.2)
    cases hg : groupI gs c with
    | none =>
      refine ⟨_, rfl, rfl, true, rfl, iteT ?_⟩
      refine ⟨by show 0 ≤ sizeLine; omega, fun p hp => k _ _ (u1.trans (.same u1.1 (same_upd hp))) ?_⟩
      unfold rowsOf
      rw [hg]
      exact .tup upd_same .nil
    | some i =>
      have hi := groupI_lt hg
      refine ⟨_, rfl, rfl, false, rfl, iteF ?_⟩
      obtain ⟨xr, hxr, oxr⟩ := OdAll.get oa (i := i) (d := grpD gs[i]) (by rw [List.getElem?_map, List.getElem?_eq_getElem hi]; rfl)
      obtain ⟨b, bx, rfl, eb, ob⟩ := od_tup (show Od H1 xr (.tuple [.tuple (gs[i].names.map .str), .tuple (gs[i].rows.map rowP), .tuple (gs[i].lim.map prD), .tuple (gs[i].hrs.map .int)]) from oxr)
      obtain ⟨x1, x2, x3, x4, rfl, o1, o2, o3, o4⟩ := od4 ob
      refine ⟨_, rfl, _, rfl, a, _, (i : Nat), _, rfl, rfl, SqT.of ea, atI_nat hxr, b, _, 1, _, rfl, rfl, SqT.of eb, rfl, ?_⟩
      have hro : rowsOf gs c = gs[i].rows := by
        unfold rowsOf
        rw [hg]
        show ((gs[i]?).map Grp.rows).getD [] = _
        rw [List.getElem?_eq_getElem hi]
        rfl
      refine k _ _ u1 ?_
      rw [hro]
      exact o2
theorem sc_rulesof : FnScope ["file", "crawler", "index"] ["file", "crawler"] (defScope s_rules_of) := ⟨rfl, rfl, rfl, by decide +kernel, rfl, by decide +kernel, by decide +kernel⟩
theorem ok_rulesof (T : D K mg) (TB : Tabs base T) (TR : TabR base T) (TF : TabF base T) : FnOk P w K mg base CX0 10 T.f_rules_of T.d_rules_of ["file", "crawler"] (spRulesOf T) := by
  refine T.U_rules_of.ok sc_rulesof (fun vs H Q E h => ?_) (fun cdv A outer s H vs Q E hr h => ?_)
  · obtain ⟨v, gs, c, rfl, _⟩ := h
    rfl
  · obtain ⟨v, gs, c, rfl, ov, R, hc, hT, k⟩ := h
    have nd := sc_rulesof.nd
    have mz : 5000 ≤ sizeLine := by decide
    refine ⟨_, pss_cons (ps_set (i := 2) nd rfl (.inl rfl) (pe_call (ok_groupof T TB TR TF) hr rfl T.g_group_of T.U_group_of.kp T.b_group_of .nil pass0 (pa_cons (pv 0) (pa_cons (pv 1) pa_nil))))
      (pss_one (ps_ret (pe_ifExp (pt_cmpR op_isN (pv 2) pe_non (nomark _)) (pe_tup (pa_cons (pe_tup pa_nil) (pa_cons (pe_tup (pa_cons pe_int pa_nil)) pa_nil))) (pe_slice sl_tupA (pe_ix ix_tup (pv 0) (pv 2) (fun _ _ => rfl)) (po_some pe_int) po_none)))), ?_⟩
    refine ⟨_, rfl, _, rfl, v, gs, c, rfl, ov, R, hc, hT, fun H1 u1 => gn ?_⟩
    dsimp only
    obtain ⟨a, xs, rfl, ea, oa⟩ := od_tup (ov.stay u1.2)
    cases hg : groupI gs c with
    | none =>
      have e1 : limOf gs c = [] := by
        unfold limOf
        rw [hg]
      have e2 : hrsOf gs c = [1] := by
        unfold hrsOf
        rw [hg]
      rw [e1, e2] at k
      refine ⟨_, rfl, rfl, true, rfl, iteT ?_⟩
      refine ⟨by show 0 ≤ sizeLine; omega, fun p hp => ⟨by show 1 ≤ sizeLine; omega, fun q hq => ⟨by show 2 ≤ sizeLine; omega, fun r hr' => ?_⟩⟩⟩
      have s1 := same_upd (o := HO.tup []) hp
      have s2 := same_upd (o := HO.tup [V.int 1]) hq
      have s3 := same_upd (o := HO.tup [V.ref p, V.ref q]) hr'
      refine k _ _ (u1.trans (.same u1.1 (s1.trans (s2.trans s3)))) (.tup upd_same (.cons ?_ (.cons ?_ .nil)))
      · exact Od.same (s2.trans s3) (.tup upd_same .nil)
      · exact Od.same s3 (.tup upd_same (.cons (.int 1) .nil))
    | some i =>
      have hi := groupI_lt hg
      refine ⟨_, rfl, rfl, false, rfl, iteF ?_⟩
      obtain ⟨xr, hxr, oxr⟩ := OdAll.get oa (i := i) (d := grpD gs[i]) (by rw [List.getElem?_map, List.getElem?_eq_getElem hi]; rfl)
      obtain ⟨b, bx, rfl, eb, ob⟩ := od_tup (show Od H1 xr (.tuple [.tuple (gs[i].names.map .str), .tuple (gs[i].rows.map rowP), .tuple (gs[i].lim.map prD), .tuple (gs[i].hrs.map .int)]) from oxr)
      obtain ⟨x1, x2, x3, x4, rfl, o1, o2, o3, o4⟩ := od4 ob
      have e1 : limOf gs c = gs[i].lim := by
        unfold limOf
        rw [hg]
        show ((gs[i]?).map Grp.lim).getD [] = _
        rw [List.getElem?_eq_getElem hi]
        rfl
      have e2 : hrsOf gs c = gs[i].hrs := by
        unfold hrsOf
        rw [hg]
        show ((gs[i]?).map Grp.hrs).getD [] = _
        rw [List.getElem?_eq_getElem hi]
        rfl
      rw [e1, e2] at k
      refine ⟨_, rfl, _, rfl, a, _, (i : Nat), _, rfl, rfl, SqT.of ea, atI_nat hxr, ?_⟩
      refine ⟨2, rfl, b, _, rfl, SqT.of eb, fun z => absurd z.1 (by show ¬ (2 = 0); decide), fun _ p hp => ?_⟩
      exact k _ _ (u1.trans (.same u1.1 (same_upd hp))) (.tup upd_same (.cons (o3.same (same_upd hp)) (.cons (o4.same (same_upd hp)) .nil)))
theorem sc_islet : FnScope ["file", "crawler", "path"] ["file", "crawler", "path"] (defScope s_is_let) := ⟨rfl, rfl, rfl, by decide +kernel, rfl, by decide +kernel, by decide +kernel⟩
theorem ok_islet (T : D K mg) (TB : Tabs base T) (TR : TabR base T) (TF : TabF base T) : FnOk P w K mg base CX0 11 T.f_is_let T.d_is_let ["file", "crawler", "path"] (spIsLet T) := by
  refine T.U_is_let.ok sc_islet (fun vs H Q E h => ?_) (fun cdv A outer s H vs Q E hr h => ?_)
  · obtain ⟨v, gs, c, r, rfl, _⟩ := h
    rfl
  · obtain ⟨v, gs, c, r, rfl, ov, R, hc, hp, hr1, hT, k⟩ := h
    refine ⟨_, pss_one (ps_ret (pe_call (ok_letby T TB TR) (hr.mono (by decide)) rfl T.g_is_let_by T.U_is_let_by.kp T.b_is_let_by .nil pass0 (pa_cons (pe_call (ok_pathsof T TB TR TF) hr rfl T.g_paths_of T.U_paths_of.kp T.b_paths_of .nil pass0 (pa_cons (pv 0) (pa_cons (pv 1) pa_nil))) (pa_cons (pv 2) pa_nil)))), ?_⟩
    refine ⟨_, rfl, _, rfl, v, gs, c, rfl, ov, R, hc, hT, fun x H1 u1 ox => ?_⟩
    refine ⟨_, rfl, x, _, r, rfl, ox, rowsOf_ok R c, hp, hr1, u1.1, fun H2 u2 => ?_⟩
    exact k H2 (u1.trans u2)
theorem sc_reason : FnScope ["file", "crawler", "path", "index"] ["file", "crawler", "path"] (defScope s_reason) := ⟨rfl, rfl, rfl, by decide +kernel, rfl, by decide +kernel, by decide +kernel⟩
theorem ok_reason (T : D K mg) (TB : Tabs base T) (TR : TabR base T) (TF : TabF base T) : FnOk P w K mg base CX0 11 T.f_reason T.d_reason ["file", "crawler", "path"] (spReason T) := by
  refine T.U_reason.ok sc_reason (fun vs H Q E h => ?_) (fun cdv A outer s H vs Q E hr h => ?_)
  · obtain ⟨v, gs, c, r, rfl, _⟩ := h
    rfl
  · obtain ⟨v, gs, c, r, rfl, ov, R, hc, hp, hr1, hT, k⟩ := h
    have nd := sc_reason.nd
    have mz : 5000 ≤ sizeLine := by decide
    refine ⟨_, pss_cons (ps_set (i := 3) nd rfl (.inl rfl) (pe_call (ok_groupof T TB TR TF) (hr.mono (by decide)) rfl T.g_group_of T.U_group_of.kp T.b_group_of .nil pass0 (pa_cons (pv 0) (pa_cons (pv 1) pa_nil))))
      (pss_one (ps_ret (pe_tup (pa_cons (pv 3) (pa_cons (pe_call (ok_deciding T TB TR) (hr.mono (by decide)) rfl T.g_deciding T.U_deciding.kp T.b_deciding .nil pass0 (pa_cons (pe_call (ok_pathsof T TB TR TF) hr rfl T.g_paths_of T.U_paths_of.kp T.b_paths_of .nil pass0 (pa_cons (pv 0) (pa_cons (pv 1) pa_nil))) (pa_cons (pv 2) pa_nil))) pa_nil))))), ?_⟩
    refine ⟨_, rfl, _, rfl, v, gs, c, rfl, ov, R, hc, hT, fun H1 u1 => gn ?_⟩
    dsimp only
    refine ⟨_, rfl, _, rfl, _, rfl, v, gs, c, rfl, ov.stay u1.2, R, hc, U3.t8 hT u1, fun x H2 u2 ox => ?_⟩
    have u12 := u1.trans u2
    refine ⟨_, rfl, x, _, r, rfl, ox, rowsOf_ok R c, hp, hr1, u12.1, fun H3 u3 => ?_⟩
    refine ⟨by show 2 ≤ sizeLine; omega, fun p hpp => ?_⟩
    have u13 := u12.trans u3
    exact k _ _ (u13.trans (.same u13.1 (same_upd hpp))) (.tup upd_same (.cons (optN_od _) (.cons (optN_od _) .nil)))
end
end KP

set_option Elab.async false
set_option maxRecDepth 100000
set_option maxHeartbeats 4000000
set_option linter.all false
/-! Ours: _law_group. -/
namespace KP
open PySem PySem.Spec PyProof.Rows L2 Gr GxR PM
theorem od_strs {H : Hp} : ∀ {xs : List V} {l : List Str}, OdAll H xs (l.map PyData.str) → xs = l.map V.str
  | _, [], .nil => rfl
  | _, z :: l, .cons a b => by
    cases a
    exact congrArg (V.str z :: ·) (od_strs b)
theorem strs_od {H : Hp} : ∀ l : List Str, OdAll H (l.map V.str) (l.map PyData.str)
  | [] => .nil
  | z :: l => .cons (.str z) (strs_od l)
theorem strs_flat (l : List Str) : (l.map V.str).all flatV = true := by
  induction l with
  | nil => rfl
  | cons z l ih => exact ih
theorem strs_in (z : Str) (l : List Str) : inV (.str z) (l.map V.str) = decide (z ∈ l) := by
  induction l with
  | nil => rfl
  | cons y l ih =>
    show ((y == z) || inV (.str z) (l.map V.str)) = _
    rw [ih, Bool.eq_iff_iff, Bool.or_eq_true, beq_iff_eq, decide_eq_true_eq, decide_eq_true_eq, List.mem_cons]
    exact ⟨fun h => h.imp Eq.symm id, fun h => h.imp Eq.symm id⟩
theorem same_put {H H1 : Hp} {D : Addr} {o : HO} (s : Same H H1) (n : H D = none) : Same H (upd H1 D o) := fun a u e => by
  rw [upd_ne (ne_of_none e n)]
  exact s a u e
theorem none_back {H H1 : Hp} {D : Addr} (s : Same H H1) (n : H1 D = none) : H D = none := by
  cases e : H D with
  | none => rfl
  | some o => rw [s _ _ e] at n; cases n
def preB (c z : Str) : Bool := cutS c none (some ((z.length : Nat) : Int)) == z
def lstep (c : Str) (i : Nat) (s : Option Nat × Int) (z : Str) : Option Nat × Int := if (!(z == "*") && (preB c z && decide (s.2 < (z.length : Nat)))) = true then (some i, ((z.length : Nat) : Int)) else s
def accL (c : Str) (gs : List Grp) : Nat → Option Nat × Int
  | 0 => (none, 0)
  | j + 1 => match gs[j]? with
    | some g => g.names.foldl (lstep c j) (accL c gs j)
    | none => accL c gs j
def hasStar (gs : List Grp) (i : Nat) : Bool := match gs[i]? with
  | some g => decide (("*" : Str) ∈ g.names)
  | none => false
def starL (gs : List Grp) : List Nat := (List.range gs.length).filter (hasStar gs)
def groupL (gs : List Grp) (c : Str) : Option Nat := match (accL c gs gs.length).1 with
  | some b => some b
  | none => (starL gs).head?
def spLGroup : Sp := fun vs H Q _ => ∃ v gs c, vs = [v, .str c] ∧ Od H v (fileD gs) ∧ FileR gs ∧ c.length ≤ 1000 ∧ ∀ H', Same H H' → Q (optN (groupL gs c)) H'
section
variable {P : Program} {w : World} {K : PySem.W.Frag} {mg : Str → Option Value} {base : Heap}
theorem op_inB {X : Cx} {s : Shared} {H : Hp} {sc : Scope} {en : Env} {fp : List Addr} : OpR (X.blk s H sc en fp) (compareOp .In) (rIn X.K false) := op_in_seq
theorem op_notInB {X : Cx} {s : Shared} {H : Hp} {sc : Scope} {en : Env} {fp : List Addr} : OpR (X.blk s H sc en fp) (compareOp .NotIn) (rIn X.K true) := op_notIn_seq
theorem sc_lgroup : FnScope ["_law_groups", "_law_who", "_law_best", "_law_long", "_law_at", "_law_group_here", "_law_name", "_law_starred"] ["_law_groups", "_law_who"] (defScope s_l_group) := ⟨rfl, rfl, rfl, by decide +kernel, rfl, by decide +kernel, by decide +kernel⟩
theorem ok_lgroup (T : D K mg) : FnOk P w K mg base CX0 2 T.f_l_group T.d_l_group ["_law_groups", "_law_who"] spLGroup := by
  refine T.U_l_group.ok sc_lgroup (fun vs H Q E h => ?_) (fun cdv A outer s H vs Q E hr h => ?_)
  · obtain ⟨v, gs, c, rfl, _⟩ := h
    rfl
  · obtain ⟨v, gs, c, rfl, ov, R, hc, k⟩ := h
    have nd := sc_lgroup.nd
    have mz : 5000 ≤ sizeLine := by decide
    refine ⟨_, pss_cons (ps_asg (pe_tup (pa_cons pe_non (pa_cons pe_int pa_nil))) (pg_tup rfl (pgs_cons (pg_name (i := 2) nd rfl (.inl rfl)) (pgs_cons (pg_name (i := 3) nd rfl (.inl rfl)) pgs_nil))))
      (pss_cons (ps_for PassesOwn.never rfl (pi_enumT (by rfl) T.enumerate (pa_cons (pv 0) pa_nil)) (pg_tup rfl (pgs_cons (pg_name (i := 4) nd rfl (.inl rfl)) (pgs_cons (pg_name (i := 5) nd rfl (.inl rfl)) pgs_nil)))
        (pss_one (ps_for PassesOwn.never rfl (pi_tup (pe_ix ix_tup (pv 5) pe_int (fun _ _ => rfl))) (pg_name (i := 6) nd rfl (.inl rfl))
          (pss_one (ps_if (PW.pt (pw_and (pt_cmpR op_ne (pv 6) pe_str (nomark _)) (pw_and (pt_cmpR op_eq (pe_slice sl_str (pv 1) po_none (po_some (pe_callB call_len_str (by rfl) T.len PySem.boot_len (pa_cons (pv 6) pa_nil)))) (pv 6) (nomark _)) (pw_and1 (pt_cmpR op_gt (pe_callB call_len_str (by rfl) T.len PySem.boot_len (pa_cons (pv 6) pa_nil)) (pv 3) (nomark _))))))
            (pss_one (ps_par (i := 2) (j := 3) (by rfl) nd rfl rfl (by decide) rfl rfl (pa_cons (pv 4) (pa_cons (pe_callB call_len_str (by rfl) T.len PySem.boot_len (pa_cons (pv 6) pa_nil)) pa_nil)) (by rfl)))
            (pss_nil))))))
      (pss_cons (ps_setLc (i := 7) (own := [("_law_at", 4), ("_law_group_here", 5)]) (g := gTup _ 2 (gCons (gName 4) (gCons (gName 5) gNil))) rfl nd rfl rfl (sw_true rfl rfl rfl (by decide +kernel)) (pi_enumT (by rfl) T.enumerate (pa_cons (pv 0) pa_nil)) (blkOk_by (N := ["_law_groups", "_law_who", "_law_best", "_law_long", "_law_at", "_law_group_here", "_law_name", "_law_starred"]) (sc := defScope s_l_group) (by decide +kernel)) (fun _ _ _ _ _ => pg_tup rfl (pgs_cons (pg_name (i := 4) nd rfl (.inl rfl)) (pgs_cons (pg_name (i := 5) nd rfl (.inl rfl)) pgs_nil))) (fun _ _ _ _ _ => (pts_one (pt_cmpR op_inB pe_str (pe_ix ix_tupB' (pv 5) pe_int (fun _ _ => rfl)) rfl))) (fun _ _ _ _ _ => pv 4))
      (pss_one (ps_ret (pe_ifExp (pt_cmpR op_notN (pv 2) pe_non (nomark _)) (pv 2) (pe_ix ix_list (pe_op op_cat (pv 7) (pe_lst (pa_cons pe_non pa_nil))) pe_int (fun _ _ => rfl))))))), ?_⟩
    obtain ⟨a, xs, rfl, ea, oa⟩ := od_tup ov
    have lx : xs.length = gs.length := by rw [oa.len, List.length_map]
    refine ⟨by show 2 ≤ sizeLine; omega, fun t0 ht0 => ⟨t0, _, rfl, SqT.of upd_same, rfl, _, _, rfl, _, _, rfl, rfl, ?_⟩⟩
    have s0 := same_upd (o := HO.tup [V.non, V.int 0]) ht0
    dsimp only
    refine ⟨_, rfl, a, xs, rfl, SqT.of (s0 _ _ ea), for_it (walk_tp (K := K) (a := a) (xs := xs)) (fun j σ H3 => Same H H3 ∧ ∃ (v4 v5 v6 v7 : Option V), σ = [some (.ref a), some (.str c), some (optN (accL c gs j).1), some (.int (accL c gs j).2), v4, v5, v6, v7]) ⟨s0, none, none, none, none, rfl⟩ (fun i σ H3 _ q => SqT.of (q.1 _ _ ea)) ?_ ?_⟩
    · rintro j x σ H2 H3 hi ⟨w2, v4, v5, v6, v7, rfl⟩ ⟨Tt, y, rfl, hTn, rfl, hy⟩
      obtain ⟨d, hd, oy⟩ := od_at oa hy
      rw [List.getElem?_map] at hd
      obtain ⟨g, hgj, rfl⟩ := Option.map_eq_some_iff.mp hd
      have u3 := w2.trans (same_upd (o := HO.tup [V.int (j : Nat), y]) hTn)
      refine ⟨_, _, rfl, SqT.of upd_same, rfl, _, _, rfl, _, _, rfl, rfl, ?_⟩
      dsimp only
      obtain ⟨b, ys, rfl, eb0, ob⟩ := od_tup (show Od H y (.tuple [.tuple (g.names.map .str), .tuple (g.rows.map rowP), .tuple (g.lim.map prD), .tuple (g.hrs.map .int)]) from oy)
      obtain ⟨x1, x2, x3, x4, rfl, o1, o2, o3, o4⟩ := od4 ob
      have eb := u3 _ _ eb0
      obtain ⟨na, nx, rfl, en, on⟩ := od_tup o1
      obtain rfl := od_strs on
      refine ⟨_, rfl, b, _, 0, _, rfl, rfl, SqT.of eb, rfl, na, rfl, ⟨_, SqT.of (u3 _ _ en)⟩, for_tup (xs := g.names.map V.str) (fun i σ H5 => Same H H5 ∧ ∃ (v6 v7 : Option V), σ = [some (.ref a), some (.str c), some (optN ((g.names.take i).foldl (lstep c j) (accL c gs j)).1), some (.int ((g.names.take i).foldl (lstep c j) (accL c gs j)).2), some (.int (j : Nat)), some (.ref b), v6, v7])
        ⟨u3, _, _, rfl⟩ (fun i σ H5 _ q => SqT.of (q.1 _ _ en)) ?_ ?_⟩
      · rintro i x σ H5 hx ⟨w5, v6', v7', rfl⟩
        rw [List.getElem?_map] at hx
        obtain ⟨z, hz, rfl⟩ := Option.map_eq_some_iff.mp hx
        have et : (g.names.take (i + 1)).foldl (lstep c j) (accL c gs j) = lstep c j ((g.names.take i).foldl (lstep c j) (accL c gs j)) z := by
          rw [List.take_add_one, hz, List.foldl_append]
          rfl
        have hcz := caller_len ((R.grp g (List.mem_of_getElem? hgj)).nm _ (List.mem_of_getElem? hz))
        have hsl : z.length ≤ sizeLine := by omega
        generalize hs : (g.names.take i).foldl (lstep c j) (accL c gs j) = st at et ⊢
        refine gn ?_
        dsimp only
        refine ⟨_, rfl, rfl, _, rfl, ?_⟩
        rw [str_eqB]
        cases hz1 : (z == "*") with
        | true =>
          refine iteF (next_of ⟨w5, some (.str z), v7', ?_⟩)
          have e2 : lstep c j st z = st := by
            unfold lstep
            rw [hz1]
            rfl
          rw [et, e2]
          rfl
        | false =>
          refine iteT ⟨_, rfl, _, rfl, z, rfl, hsl, _, rfl, c, rfl, by omega, _, rfl, rfl, _, rfl, ?_⟩
          rw [str_eqB]
          cases hp : preB c z with
          | false =>
            refine iteN' hp (next_of ⟨w5, some (.str z), v7', ?_⟩)
            have e2 : lstep c j st z = st := by
              unfold lstep
              rw [hp, Bool.false_and, Bool.and_false]
              rfl
            rw [et, e2]
            rfl
          | true =>
            have hp' : (cutS c none (some ((z.length : Nat) : Int)) == z) = true := hp
            rw [hp']
            refine iteT ⟨_, rfl, z, rfl, hsl, _, rfl, _, _, rfl, rfl, _, rfl, ?_⟩
            cases hd : decide (st.2 < (z.length : Nat)) with
            | false =>
              refine iteF (next_of ⟨w5, some (.str z), v7', ?_⟩)
              have e2 : lstep c j st z = st := by
                unfold lstep
                rw [hd, Bool.and_false, Bool.and_false]
                rfl
              rw [et, e2]
              rfl
            | true =>
              have e2 : lstep c j st z = (some j, ((z.length : Nat) : Int)) := by
                unfold lstep
                rw [hd, hp, hz1]
                rfl
              refine iteT ?_
              refine ⟨_, rfl, _, rfl, z, rfl, hsl, _, _, rfl, w5, some (.str z), v7', ?_⟩
              rw [et, e2]
              rfl
      · rintro σ H5 ⟨w5, v6', v7', rfl⟩
        refine ⟨w5, some (.int (j : Nat)), some (.ref b), v6', v7', ?_⟩
        have e2 : accL c gs (j + 1) = g.names.foldl (lstep c j) (accL c gs j) := by
          show (match gs[j]? with | some g => g.names.foldl (lstep c j) (accL c gs j) | none => accL c gs j) = _
          rw [hgj]
        rw [e2, List.length_map, List.take_length]
    · rintro σ H2 ⟨w2, v4, v5, v6, v7, rfl⟩
      rw [lx]
      refine ⟨_, rfl, a, xs, rfl, SqT.of (w2 _ _ ea), fun Dl hDl => lc_it (walk_tp (K := K) (a := a) (xs := xs)) (fun i Hx => Same H Hx ∧ Hx Dl = some (.lst (((List.range i).filter (hasStar gs)).map fun n => V.int (n : Nat))))
        ⟨w2.trans (same_upd hDl), upd_same⟩ (fun i Hx _ q => SqT.of (q.1 _ _ ea)) ?_ ?_⟩
      · rintro i x H3 H4 hi ⟨u3, eD⟩ ⟨Tt, y, rfl, hTn, rfl, hy⟩
        obtain ⟨d, hd, oy⟩ := od_at oa hy
        rw [List.getElem?_map] at hd
        obtain ⟨g, hgi, rfl⟩ := Option.map_eq_some_iff.mp hd
        have s4 := same_upd (o := HO.tup [V.int (i : Nat), y]) hTn
        have u4 := u3.trans s4
        have eD4 := s4 _ _ eD
        obtain ⟨b, ys, rfl, eb0, ob⟩ := od_tup (show Od H y (.tuple [.tuple (g.names.map .str), .tuple (g.rows.map rowP), .tuple (g.lim.map prD), .tuple (g.hrs.map .int)]) from oy)
        obtain ⟨x1, x2, x3, x4, rfl, o1, o2, o3, o4⟩ := od4 ob
        have eb := u4 _ _ eb0
        obtain ⟨na, nx, rfl, en, on⟩ := od_tup o1
        obtain rfl := od_strs on
        have hst : hasStar gs i = decide (("*" : Str) ∈ g.names) := by
          unfold hasStar
          rw [hgi]
        refine ⟨_, _, rfl, SqT.of upd_same, rfl, _, _, rfl, _, _, rfl, rfl, rfl, ?_⟩
        refine ⟨_, rfl, b, _, 0, _, rfl, rfl, SqT.of eb, rfl, na, _, rfl, .inr (SqT.of (u4 _ _ en)), rfl, strs_flat _, _, rfl, ?_⟩
        have eF : (List.range (i + 1)).filter (hasStar gs) = (List.range i).filter (hasStar gs) ++ (if hasStar gs i = true then [i] else []) := by
          rw [List.range_succ, List.filter_append]
          congr 1
          by_cases hq : hasStar gs i = true
          · rw [if_pos hq, List.filter_cons_of_pos hq]
            rfl
          · rw [if_neg hq, List.filter_cons_of_neg hq]
            rfl
        have ib : inV (.str "*") (g.names.map V.str) = hasStar gs i := by rw [hst]; exact strs_in _ _
        cases hh : hasStar gs i with
        | true =>
          rw [hh] at ib eF
          refine iteT' (show (if false = true then !inV (.str "*") (g.names.map V.str) else inV (.str "*") (g.names.map V.str)) = true from ib) ⟨_, rfl, _, eD4, ?_, same_put u4 (none_back w2 hDl), ?_⟩
          · rw [List.length_map]
            have : ((List.range i).filter (hasStar gs)).length ≤ i := by
              have := List.length_filter_le (hasStar gs) (List.range i)
              rw [List.length_range] at this
              exact this
            have := R.len
            omega
          · rw [upd_same, eF, List.map_append]
            rfl
        | false =>
          rw [hh] at ib eF
          refine iteN' (show (if false = true then !inV (.str "*") (g.names.map V.str) else inV (.str "*") (g.names.map V.str)) = false from ib) ⟨u4, ?_⟩
          rw [eF, eD4]
          rw [if_neg Bool.false_ne_true, List.append_nil]
      · rintro Hx ⟨ux, eD⟩
        refine gn ?_
        dsimp only
        rw [lx] at eD
        refine ⟨_, rfl, rfl, _, rfl, ?_⟩
        cases hb : (accL c gs gs.length).1 with
        | some bi =>
          refine iteT ⟨_, rfl, ?_⟩
          have q := k Hx ux
          unfold groupL at q
          rw [hb] at q
          exact q
        | none =>
          refine iteF ⟨_, rfl, by show 1 ≤ sizeLine; omega, fun l1 h1 => ?_⟩
          have s1 := same_upd (o := HO.lst [V.non]) h1
          have ls : (starL gs).length ≤ 4 := by
            unfold starL
            have := List.length_filter_le (hasStar gs) (List.range gs.length)
            rw [List.length_range] at this
            have := R.len
            omega
          refine ⟨Dl, l1, _, _, rfl, rfl, s1 _ _ eD, upd_same, by rw [List.length_map]; show (starL gs).length + 1 ≤ sizeLine; omega, fun l2 h2 => ?_⟩
          have s2 := same_upd (o := HO.lst (((starL gs).map fun n => V.int (n : Nat)) ++ [V.non])) h2
          have q := k _ ((ux.trans s1).trans s2)
          unfold groupL at q
          rw [hb] at q
          cases hsl : starL gs with
          | nil =>
            rw [hsl] at q
            refine ⟨l2, _, 0, .non, rfl, rfl, SqL.of upd_same, ?_, ?_⟩
            · show atI (((starL gs).map fun n => V.int (n : Nat)) ++ [V.non]) 0 = _
              rw [hsl]
              rfl
            · have q' : Q .non _ := q
              rw [← hsl] at q'
              exact q'
          | cons x r =>
            refine ⟨l2, _, 0, .int (x : Nat), rfl, rfl, SqL.of upd_same, ?_, ?_⟩
            · show atI (((starL gs).map fun n => V.int (n : Nat)) ++ [V.non]) ((0 : Nat) : Int) = _
              rw [hsl]
              exact atI_nat rfl
            · have eh : (starL gs).head? = some x := by rw [hsl]; rfl
              rw [eh] at q
              exact q
end
end KP

set_option Elab.async false
set_option maxRecDepth 100000
set_option maxHeartbeats 4000000
set_option linter.all false
/-! Ours: both ways to the group of a crawler agree. -/
namespace KP
open PySem PySem.Spec PyProof.Rows L2 Gr GxR PM
theorem starts_pre (c z : Str) : Txt.startswith c z = preB c z := by
  have e : cutS c none (some ((z.length : Nat) : Int)) = ⟨(c.cps.toList.take z.length).toArray⟩ := by
    unfold cutS
    rw [HT.sIx_none, HT.sIx_nat, List.drop_zero, Nat.sub_zero]
    congr 2
    by_cases h : z.length ≤ c.length
    · rw [Nat.min_eq_left h]
    · rw [Nat.min_eq_right (by omega), List.take_of_length_le (by show c.cps.toList.length ≤ c.cps.size; simp), List.take_of_length_le (by show c.cps.toList.length ≤ z.length; have : c.cps.toList.length = c.length := by show c.cps.toList.length = c.cps.size; simp
                                                                                                                                           omega)]
  unfold preB Txt.startswith
  rw [e, PySem.StrLaws.subAt_eq, List.drop_zero, Nat.zero_add, Bool.eq_iff_iff, Bool.and_eq_true, beq_iff_eq, beq_iff_eq, decide_eq_true_eq]
  have lz : z.cps.toList.length = z.length := by show z.cps.toList.length = z.cps.size; simp
  have lc : c.cps.toList.length = c.length := by show c.cps.toList.length = c.cps.size; simp
  constructor
  · rintro ⟨_, h⟩
    rw [h]
  · intro h
    have h2 : c.cps.toList.take z.length = z.cps.toList := by
      conv => rhs; rw [← h]
    refine ⟨?_, h2⟩
    have := congrArg List.length h2
    rw [List.length_take, lz, lc] at this
    omega
structure Rel2 (a b : Option Nat × Int) (fs : Option Nat) : Prop where
  no : b.1 = none → b.2 = 0 ∧ a.1 = fs ∧ a.2 = (if fs.isSome = true then 0 else -1)
  yes : ∀ i, b.1 = some i → a = b ∧ 1 ≤ b.2
theorem Rel2.star {c : Str} {i : Nat} {a b : Option Nat × Int} {fs : Option Nat} (r : Rel2 a b fs) : Rel2 (gstep c i a "*") (lstep c i b "*") (fs.or (some i)) := by
  have eb : lstep c i b "*" = b := by
    unfold lstep
    rfl
  have es : startOf "*" = "" := rfl
  have et : Txt.startswith c "" = true := by
    rw [starts_pre]
    unfold preB cutS
    rw [HT.sIx_none]
    show ((⟨((c.cps.toList.drop 0).take (HT.sIx c.length c.length (some ((0 : Nat) : Int)) - 0)).toArray⟩ : Str) == "") = true
    rw [HT.sIx_nat]
    rfl
  rw [eb]
  unfold gstep
  rw [es, et, Bool.true_and]
  show Rel2 (if decide (a.2 < 0) = true then (some i, 0) else a) b _
  refine ⟨fun h => ?_, fun j h => ?_⟩
  · obtain ⟨h1, h2, h3⟩ := r.no h
    refine ⟨h1, ?_⟩
    cases fs with
    | none =>
      have h3' : a.2 = -1 := h3
      rw [if_pos (by rw [h3']; decide)]
      exact ⟨rfl, rfl⟩
    | some k =>
      have h3' : a.2 = 0 := h3
      rw [if_neg (by rw [h3']; decide)]
      exact ⟨h2, h3'⟩
  · obtain ⟨h1, h2⟩ := r.yes j h
    rw [if_neg (by rw [decide_eq_true_eq, h1]; omega)]
    exact ⟨h1, h2⟩
theorem Rel2.name {c z : Str} {i : Nat} {a b : Option Nat × Int} {fs : Option Nat} (r : Rel2 a b fs) (hz : z ≠ "*") (hl : 1 ≤ z.length) : Rel2 (gstep c i a z) (lstep c i b z) fs := by
  have es : startOf z = z := if_neg hz
  have en : (z == "*") = false := by
    rw [beq_eq_false_iff_ne]
    exact hz
  unfold gstep lstep
  rw [es, starts_pre, en]
  show Rel2 (if (preB c z && decide (a.2 < (z.length : Nat))) = true then _ else a) (if (preB c z && decide (b.2 < (z.length : Nat))) = true then _ else b) fs
  cases hp : preB c z with
  | false => exact r
  | true =>
    rw [Bool.true_and, Bool.true_and]
    cases hb : b.1 with
    | none =>
      obtain ⟨h1, h2, h3⟩ := r.no hb
      have ha : a.2 < (z.length : Nat) := by
        rw [h3]
        split <;> omega
      have hb2 : b.2 < (z.length : Nat) := by omega
      rw [if_pos (decide_eq_true ha), if_pos (decide_eq_true hb2)]
      exact ⟨fun h => (nomatch h), fun j _ => ⟨rfl, by show (1 : Int) ≤ (z.length : Nat); omega⟩⟩
    | some k =>
      obtain ⟨h1, h2⟩ := r.yes k hb
      rw [h1]
      by_cases hd : b.2 < (z.length : Nat)
      · rw [if_pos (decide_eq_true hd)]
        exact ⟨fun h => (nomatch h), fun j _ => ⟨rfl, by show (1 : Int) ≤ (z.length : Nat); omega⟩⟩
      · rw [if_neg (by rw [decide_eq_true_eq]; exact hd)]
        exact ⟨fun h => (nomatch (hb.symm.trans h)), fun j _ => ⟨rfl, h2⟩⟩
theorem Rel2.fold {c : Str} {i : Nat} : ∀ (l : List Str) {a b : Option Nat × Int} {fs : Option Nat}, (∀ z ∈ l, 1 ≤ z.length) → Rel2 a b fs → Rel2 (l.foldl (gstep c i) a) (l.foldl (lstep c i) b) (if ("*" : Str) ∈ l then fs.or (some i) else fs)
  | [], a, b, fs, _, r => by
    rw [if_neg (by simp)]
    exact r
  | z :: l, a, b, fs, hl, r => by
    have hl' : ∀ z ∈ l, 1 ≤ z.length := fun y hy => hl y (List.mem_cons_of_mem _ hy)
    by_cases hz : z = "*"
    · subst hz
      have q := Rel2.fold (c := c) (i := i) l hl' (r.star (c := c) (i := i))
      rw [if_pos List.mem_cons_self]
      have e : (if ("*" : Str) ∈ l then (fs.or (some i)).or (some i) else fs.or (some i)) = fs.or (some i) := by
        split
        · cases fs <;> rfl
        · rfl
      rw [e] at q
      exact q
    · have q := Rel2.fold (c := c) (i := i) l hl' (r.name (c := c) (i := i) hz (hl z List.mem_cons_self))
      have e : (("*" : Str) ∈ z :: l) ↔ ("*" : Str) ∈ l := by
        rw [List.mem_cons]
        exact ⟨fun h => h.elim (fun q => absurd q.symm hz) id, .inr⟩
      rw [show (if ("*" : Str) ∈ z :: l then fs.or (some i) else fs) = (if ("*" : Str) ∈ l then fs.or (some i) else fs) from by simp only [e]]
      exact q
theorem Rel2.all {gs : List Grp} (R : FileR gs) (c : Str) : ∀ j, j ≤ gs.length → Rel2 (accG c gs j) (accL c gs j) ((List.range j).filter (hasStar gs)).head?
  | 0, _ => ⟨fun _ => ⟨rfl, rfl, rfl⟩, fun _ h => (nomatch h)⟩
  | j + 1, hj => by
    have ih := Rel2.all R c j (by omega)
    have hg : gs[j]? = some gs[j] := List.getElem?_eq_getElem hj
    have eG : accG c gs (j + 1) = gs[j].names.foldl (gstep c j) (accG c gs j) := by
      show (match gs[j]? with | some g => g.names.foldl (gstep c j) (accG c gs j) | none => accG c gs j) = _
      rw [hg]
    have eL : accL c gs (j + 1) = gs[j].names.foldl (lstep c j) (accL c gs j) := by
      show (match gs[j]? with | some g => g.names.foldl (lstep c j) (accL c gs j) | none => accL c gs j) = _
      rw [hg]
    have q := Rel2.fold (c := c) (i := j) gs[j].names (fun z hz => (caller_len ((R.grp _ (List.getElem_mem hj)).nm z hz)).1) ih
    rw [eG, eL]
    have eh : hasStar gs j = decide (("*" : Str) ∈ gs[j].names) := by
      unfold hasStar
      rw [hg]
    have e : ((List.range (j + 1)).filter (hasStar gs)).head? = if ("*" : Str) ∈ gs[j].names then (((List.range j).filter (hasStar gs)).head?).or (some j) else ((List.range j).filter (hasStar gs)).head? := by
      rw [List.range_succ, List.filter_append]
      by_cases hm : ("*" : Str) ∈ gs[j].names
      · rw [if_pos hm, List.filter_cons_of_pos (by rw [eh]; exact decide_eq_true hm), List.head?_append]
        rfl
      · rw [if_neg hm, List.filter_cons_of_neg (by rw [eh]; simpa using hm)]
        simp
    rw [e]
    exact q
theorem group_is {gs : List Grp} (R : FileR gs) (c : Str) : groupL gs c = groupI gs c := by
  have r := Rel2.all R c gs.length (Nat.le_refl _)
  unfold groupL groupI
  cases hb : (accL c gs gs.length).1 with
  | none => exact (r.no hb).2.1.symm
  | some b =>
    show some b = _
    rw [(r.yes b hb).1, hb]
end KP

set_option Elab.async false
set_option maxRecDepth 100000
set_option maxHeartbeats 4000000
set_option linter.all false
/-! Ours: text.replace(y, z) of two written texts, behind a pair of written texts. -/
namespace Gr
open PySem PySem.Spec PyProof.Rows L2
section
variable {X : Cx} {t u : TS} {rest : List Stmt}
theorem wpAny_toks0 {M : Model} {A : Around} {E : Value → Shared → Prop} {α : Type} {m : Sem α} {Q : α → Shared → Prop} {s : Shared} (h0 : 1 ≤ s.toks) (h : wpAny M A m Q E s) : wpAny M A m (fun a s' => 1 ≤ s'.toks ∧ Q a s') E s :=
  wpAny_mono (PySem.wpAny_toks h) (fun _ _ q => ⟨Nat.le_trans h0 q.1, q.2⟩) fun _ _ q => q.2
/-- x, y = 'one', 'two': behind it a token is out -/
theorem pss_two {tg : Expr} {g : TG} {y z : Str} {j0 j1 k : Nat} {c0 c1 tp pos : Pos} (hg : PG X tg g) (h2 : PSsT X rest u)
    (hs : swapsWithSole [tg] (.Tuple [.Constant (.str y) j0 c0, .Constant (.str z) j1 c1] k tp) pos.line X.env = pure false := by rfl) (hw : swappedStores [tg] (.Tuple [.Constant (.str y) j0 c0, .Constant (.str z) j1 c1] k tp) X.env = pure none := by rfl)
    (h1 : (assignEach [tg] X.env).map (·.2) = [assign tg X.env] := by rfl) :
    PSs X (.Assign [tg] (.Tuple [.Constant (.str y) j0 c0, .Constant (.str z) j1 c1] k tp) pos :: rest) (tSeq (tAsg (tTup (tCons (tC (.str y)) (tCons (tC (.str z)) tNil))) g) u) := by
  refine ⟨fun pins s σ H D I h => ?_⟩
  obtain ⟨z2, h⟩ := h
  refine wpAny_execs_cons (wpAny_Assign_stores (wpAny_Tuple_spliced ?_) hs hw)
  show wpAny _ _ (spliced ((false, eval (.Constant (.str y) j0 c0) X.env) :: backTo tp (starEach [.Constant (.str z) j1 c1] X.env))) _ _ s
  refine Calls.spliced_cons (Calls.Constant_str ?_)
  show wpAny _ _ (spliced ((false, eval (.Constant (.str z) j1 c1) X.env) :: backTo tp (starEach [] X.env))) _ _ _
  refine Calls.spliced_cons (Calls.Constant_str (Calls.spliced_nil ⟨z2, ?_⟩))
  rw [h1]
  have hf : H s.heap.objs.size = none := I.hok.fresh (Nat.le_refl _)
  have J := I.laid (a := s.heap.objs.size) (o := .tup [.str y, .str z]) (t' := s.toks + 1 + 1) (fun b u e => Heap.get?_push_of_some { cls := .type "tuple", data := .seq #[.str y s.toks, .str z (s.toks + 1)] } e) (Nat.le_refl _)
    ⟨z2, [.str y s.toks, .str z (s.toks + 1)], .cons ⟨_, rfl⟩ (.cons ⟨_, rfl⟩ .nil), ⟨_, Heap.get?_push_size _ rfl, rfl, _, rfl⟩⟩
  refine thn (wpAny_toks0 (show 1 ≤ s.toks + 1 + 1 by omega) (hg.run pins _ σ _ (.ref s.heap.objs.size) _ _ J rfl (h _ hf))) fun _ s2 q => ?_
  obtain ⟨hk, σ', H', I', q⟩ := q
  exact h2 pins s2 σ' H' D hk I' q
theorem pst_if {c : Expr} {a b : List Stmt} {tc : TT} {pos : Pos} (hc : PT X c tc) (ha : PSsT X a t) (hb : PSsT X b u) : PST X (.If c a b pos) (tIfS tc t u) := by
  intro pins s σ H D h0 I h
  refine wpAny_If (thn (wpAny_toks0 h0 (hc.run pins s σ H _ I h)) fun d s1 ⟨hk, H1, I1, q1⟩ => ?_)
  cases d with
  | true => exact ha pins s1 σ H1 D hk I1 q1
  | false => exact hb pins s1 σ H1 D hk I1 q1
theorem pst_set {i : Nat} {x : Str} {e : Expr} {te : TE} {pos pos' : Pos} (hN : X.N.Nodup) (hi : X.N[i]? = some x) (hx : Loc X.env.scope x) (he : PET X e te) (hs : swapsWith e (some (.Name x pos')) pos.line X.env = pure false := by rfl) (hf : X.fn x = true ∨ X.env.scope.names.lookup x = some .local := by first | exact .inl rfl | exact .inr rfl | assumption) :
    PST X (.Assign [.Name x pos'] e pos) (tAsg te (gName i)) := by
  intro pins s σ H D h0 I h
  refine wpAny_Assign_Name (thn (he pins s σ H _ h0 I h) fun v s1 ⟨y, H1, I1, r1, q1⟩ => ?_) hs
  exact store_ok I1 hN hi hx r1 (fun s2 I2 => ⟨_, H1, I2, q1⟩) hf
def tRepC (te : TE) (y z : Str) : TE := fun σ H Q => te σ H fun v H1 => ∃ x : Str, v = .str x ∧ x.length + (x.length + 1) * z.length ≤ 16777216 ∧ Q (.str (Txt.replace x y z)) H1
/-- e.replace('one', 'two') -/
theorem pet_repl {e : Expr} {te : TE} {y z : Str} {j0 j1 : Nat} {c0 c1 apos pos : Pos} (he : PE X e te) (hyz : (y == z) = false)
    (hst : starEach [.Constant (.str y) j0 c0, .Constant (.str z) j1 c1] X.env = [(false, eval (.Constant (.str y) j0 c0) X.env), (false, eval (.Constant (.str z) j1 c1) X.env)] := by rfl)
    (hbase : attributeBase e "replace" X.env (eval e X.env) = eval e X.env := by rfl) (hline : (apos.endLine == pos.line) = true := by rfl) :
    PET X (.Call (.Attribute e "replace" apos) [.Constant (.str y) j0 c0, .Constant (.str z) j1 c1] [] pos) (tRepC te y z) := by
  intro pins s σ H Q h0 I h
  refine PySem.Call_method2 hbase hst hline (thn (wpAny_toks0 h0 (he.run pins s σ H _ I h)) fun xv s1 q => ?_)
  obtain ⟨hk, v, H1, I1, r1, x, rfl, hb, q⟩ := q
  obtain ⟨tx, rfl⟩ := r1
  refine ⟨"str", _, F.plainAttrs_str, F.slot_str_replace, F.type_str_replace, typeIs_str _ _ _, (fun _ e => nomatch e), Calls.callWith_builtin rfl (Calls.evalArgs_plain (Calls.spliced_cons (Calls.Constant_str ?_)))⟩
  refine Calls.spliced_cons (Calls.Constant_str (Calls.spliced_nil ?_))
  exact PySem.SC.replace (show s1.toks ≠ 0 by omega) (show s1.toks + 1 ≠ 0 by omega) (show s1.toks ≠ s1.toks + 1 by omega) hyz hb fun t' k => ⟨.str (Txt.replace x y z), H1, I1.tok k, ⟨t', rfl⟩, q⟩
end
end Gr

set_option Elab.async false
set_option maxRecDepth 100000
set_option maxHeartbeats 4000000
set_option linter.all false
/-! Ours: _law_some_name. -/
namespace KP
open PySem PySem.Spec PyProof.Rows L2 Gr GxR PM PySem.StrLaws
/-- letters alone, n at most -/
def LetS (n : Nat) (z : Str) : Prop := z.length ≤ n ∧ ∀ c ∈ z.cps.toList, c ∈ LT
theorem len_list (z : Str) : z.cps.toList.length = z.length := by show z.cps.toList.length = z.cps.size; simp
theorem LetS.name {z : Str} (h : LetS 12 z) (h0 : 1 ≤ z.length) : isName z = true := by
  unfold isName
  rw [decide_eq_true h0, decide_eq_true h.1]
  exact List.all_eq_true.mpr fun c hc => decide_eq_true (h.2 c hc)
theorem LetS.caller {z : Str} (h : LetS 12 z) (h0 : 1 ≤ z.length) : callerB z = true := by
  unfold callerB
  rw [h.name h0]
  rfl
theorem name_let {z : Str} (h : isName z = true) : LetS 12 z := by
  refine ⟨(isName_len h).2, fun c hc => ?_⟩
  unfold isName at h
  rw [Bool.and_eq_true] at h
  exact of_decide_eq_true (List.all_eq_true.mp h.2 c hc)
theorem cutS_to (z : Str) (n : Nat) : (cutS z none (some (n : Int))).cps.toList = z.cps.toList.take n := by
  unfold cutS
  rw [HT.sIx_none, HT.sIx_nat, List.drop_zero, Nat.sub_zero]
  show z.cps.toList.take (min n z.length) = _
  by_cases h : n ≤ z.length
  · rw [Nat.min_eq_left h]
  · rw [Nat.min_eq_right (by omega), List.take_of_length_le (by rw [len_list]; exact Nat.le_refl _), List.take_of_length_le (by rw [len_list]; omega)]
theorem cutS_last (z : Str) : ∃ n, (cutS z none (some (-1))).cps.toList = z.cps.toList.take n := ⟨_, by
  unfold cutS
  rw [HT.sIx_none, List.drop_zero, Nat.sub_zero]⟩
theorem LetS.cut {m : Nat} {z y : Str} {n : Nat} (h : LetS m z) (e : y.cps.toList = z.cps.toList.take n) : LetS (min n m) y := by
  refine ⟨?_, fun c hc => h.2 c (List.mem_of_mem_take (by rw [← e]; exact hc))⟩
  have := congrArg List.length e
  rw [List.length_take, len_list, len_list] at this
  have := h.1
  omega
theorem LetS.mono {m n : Nat} {z : Str} (h : LetS m z) (l : m ≤ n) : LetS n z := ⟨Nat.le_trans h.1 l, h.2⟩
theorem LetS.put {m : Nat} {z : Str} {c : Nat} (h : LetS m z) (hc : c ∈ LT) : LetS (m + 1) (z ++ (⟨#[c]⟩ : Str)) := by
  have e : (z ++ (⟨#[c]⟩ : Str)).cps.toList = z.cps.toList ++ [c] := by
    show (z.cps ++ #[c]).toList = _
    simp
  refine ⟨?_, fun d hd => ?_⟩
  · rw [← len_list, e, List.length_append, len_list]
    have := h.1
    show z.length + 1 ≤ m + 1
    omega
  · rw [e] at hd
    rcases List.mem_append.mp hd with q | q
    · exact h.2 d q
    · rw [List.mem_singleton.mp q]
      exact hc
theorem put_len (z : Str) (c : Nat) : (z ++ (⟨#[c]⟩ : Str)).length = z.length + 1 := by
  show (z.cps ++ #[c]).size = z.cps.size + 1
  simp
theorem repl_none (l : List Nat) : replL [42] [] l = l.filter fun c => decide (c ≠ 42) := by
  induction l with
  | nil => exact replL_nil
  | cons c l ih =>
    by_cases h : c = 42
    · rw [replL_hit (by simp) (by rw [h]; rfl), List.filter_cons_of_neg (by simp [h])]
      exact ih
    · rw [replL_miss (by intro q; exact h (by cases q; rfl)), List.filter_cons_of_pos (by simp [h]), ih]
theorem repl_let {z : Str} (h : callerB z = true) : LetS 12 (Txt.replace z "*" "") := by
  have e : (Txt.replace z "*" "").cps.toList = z.cps.toList.filter fun c => decide (c ≠ 42) := by
    rw [replace_list (by decide +kernel)]
    exact repl_none _
  refine ⟨?_, fun c hc => ?_⟩
  · rw [← len_list, e]
    have := List.length_filter_le (fun c => decide (c ≠ 42)) z.cps.toList
    rw [len_list] at this
    have := (caller_len h).2
    omega
  · rw [e, List.mem_filter] at hc
    unfold callerB at h
    rw [Bool.or_eq_true, beq_iff_eq] at h
    rcases h with h | h
    · exact (name_let h).2 c hc.1
    · rw [h] at hc
      have : c = 42 := by
        have q : c ∈ [42] := hc.1
        exact List.mem_singleton.mp q
      exact absurd this (of_decide_eq_true hc.2)
def spSomeName : Sp := fun vs H Q _ => ∃ (p u : Addr) (l : List Str), vs = [.ref p, .ref u] ∧ Well H p ∧ H u = some (.lst (l.map V.str)) ∧ u ≠ p ∧ l.length ≤ 20 ∧ (∀ z ∈ l, callerB z = true) ∧
  ∀ (z : Str) (H' : Hp), But H H' p → Well H' p → callerB z = true → z ∉ l → Q (.str z) H'
/-- a letter that isn't used -/
theorem free_let (l : List Str) (h : l.length ≤ 20) : ∃ c ∈ LT, (⟨#[c]⟩ : Str) ∉ l := by
  refine Classical.byContradiction fun q => ?_
  have all : ∀ c ∈ LT, (⟨#[c]⟩ : Str) ∈ l := fun c hc => Classical.byContradiction fun n => q ⟨c, hc, n⟩
  have nd : (LT.map fun c => (⟨#[c]⟩ : Str)).Nodup := by decide +kernel
  have le : (LT.map fun c => (⟨#[c]⟩ : Str)).length ≤ l.length := by
    refine List.Nodup.length_le_of_subset nd fun z hz => ?_
    obtain ⟨c, hc, rfl⟩ := List.mem_map.mp hz
    exact all c hc
  have : (LT.map fun c => (⟨#[c]⟩ : Str)).length = 26 := by decide +kernel
  omega
theorem lay_strs : ∀ l : List Str, (∀ z ∈ l, PyData.strOk z = true) → PyData.canLayAll0 (l.map PyData.str) = true
  | [], _ => rfl
  | i :: l, h => by
    have := lay_strs l fun z hz => h z (List.mem_cons_of_mem _ hz)
    have h1 := h i List.mem_cons_self
    simp [PyData.canLayAll0, PyData.canLay0, this, h1]
theorem depthall_strs : ∀ l : List Str, PyData.depthAll (l.map PyData.str) ≤ 1
  | [] => by simp [PyData.depthAll]
  | i :: l => by
    have := depthall_strs l
    simp only [List.map_cons, PyData.depthAll, PyData.depth]
    omega
theorem shaped_strs (l : List Str) (h : ∀ z ∈ l, PyData.strOk z = true) : SeqAt.shaped (.list (l.map PyData.str)) = true := by
  have a := lay_strs l h
  have b := depthall_strs l
  unfold SeqAt.shaped
  rw [Bool.and_eq_true, decide_eq_true_eq]
  exact ⟨by simp [PyData.canLay0, a], by simp only [PyData.depth]; omega⟩
theorem dp_strs {K : PySem.W.Frag} {H : Hp} : ∀ l : List Str, DpAll K H (l.map V.str) (l.map PyData.str)
  | [] => .nil
  | z :: l => .cons (.str z) (dp_strs l)
section
variable {P : Program} {w : World} {K : PySem.W.Frag} {mg : Str → Option Value} {base : Heap}
theorem sc_sname : FnScope ["_law_well_here", "_law_used", "_law_letters", "_law_name", "_law_turn", "_law_letter"] ["_law_well_here", "_law_used"] (defScope s_l_some_name) := ⟨rfl, rfl, rfl, by decide +kernel, rfl, by decide +kernel, by decide +kernel⟩
theorem ok_sname (T : D K mg) : FnOk P w K mg base CX0 3 T.f_l_some_name T.d_l_some_name ["_law_well_here", "_law_used"] spSomeName := by
  refine T.U_l_some_name.ok sc_sname (fun vs H Q E h => ?_) (fun cdv A outer s H vs Q E hr h => ?_)
  · obtain ⟨p, u, l, rfl, _⟩ := h
    rfl
  · obtain ⟨p, u, l, rfl, hp, hu, nup, hl, hc, k⟩ := h
    have nd := sc_sname.nd
    have mz : 5000 ≤ sizeLine := by decide
    refine ⟨_, pss_two (pg_tup rfl (pgs_cons (pg_name (i := 2) nd rfl (.inl rfl)) (pgs_cons (pg_name (i := 3) nd rfl (.inl rfl)) pgs_nil)))
      (psst_cons (pst_if (PW.pt (pw_and (pt_cmpR (op_neD hr.units) (pv 1) (pe_lst pa_nil) (nomark _)) (pw_and1 (pt_cmpR op_eq (pe_call (ok_l_pick T) (hr.mono (by decide)) rfl T.g_l_pick T.U_l_pick.kp T.b_l_pick .nil pass0 (pa_cons (pv 0) (pa_cons pe_int pa_nil))) pe_int (nomark _)))))
        (psst_cons (pst_set (i := 3) nd rfl (.inl rfl) (pet_repl (pe_call (ok_l_one T) hr rfl T.g_l_one T.U_l_one.kp T.b_l_one .nil pass0 (pa_cons (pv 0) (pa_cons (pv 1) pa_nil))) (by decide +kernel)))
        (PSsT.of (pss_one (ps_set (i := 3) nd rfl (.inl rfl) (pe_ifExp (pt_cmpR op_eq (pe_call (ok_l_pick T) (hr.mono (by decide)) rfl T.g_l_pick T.U_l_pick.kp T.b_l_pick .nil pass0 (pa_cons (pv 0) (pa_cons pe_int pa_nil))) pe_int (nomark _)) (pe_slice sl_str (pv 3) po_none (po_some (pe_un un_neg pe_int))) (pe_slice sl_str (pv 3) po_none (po_some pe_int)))))))
        (PSsT.of pss_nil))
      (PSsT.of (pss_cons (ps_for PassesOwn.never rfl (pi_range1 rfl T.range (pa_cons (pe_call (ok_l_one T) hr rfl T.g_l_one T.U_l_one.kp T.b_l_one .nil pass0 (pa_cons (pv 0) (pa_cons (pe_lst (pa_cons pe_int (pa_cons pe_int (pa_cons pe_int (pa_cons pe_int (pa_cons pe_int pa_nil)))))) pa_nil))) pa_nil)) (pg_name (i := 4) nd rfl (.inl rfl))
        (pss_one (ps_set (i := 3) nd rfl (.inl rfl) (pe_slice sl_str (pe_op op_add_str (pv 3) (pe_call (ok_l_oneS T) hr rfl T.g_l_one T.U_l_one.kp T.b_l_one .nil pass0 (pa_cons (pv 0) (pa_cons (pv 2) pa_nil)))) po_none (po_some pe_int)))))
      (pss_cons (ps_if (pt_cmpR op_eq (pe_call (ok_l_pick T) (hr.mono (by decide)) rfl T.g_l_pick T.U_l_pick.kp T.b_l_pick .nil pass0 (pa_cons (pv 0) (pa_cons pe_int pa_nil))) pe_int (nomark _))
        (pss_one (ps_set (i := 3) nd rfl (.inl rfl) pe_str))
        (pss_nil))
      (pss_one (ps_ret (pe_ifExp (pt_cmpR op_notIn_seq (pv 3) (pv 1) rfl) (pv 3) (pe_ix ix_list (pe_lc (own := [("_law_letter", 5)]) (g := gName 5) rfl nd (pi_str (pv 2)) (blkOk_by (N := ["_law_well_here", "_law_used", "_law_letters", "_law_name", "_law_turn", "_law_letter"]) (sc := defScope s_l_some_name) (by decide +kernel)) (fun _ _ _ _ _ => pg_name (i := 5) nd rfl (.inl rfl)) (fun _ _ _ _ _ => (pts_one (pt_cmpR op_notInB (pv 5) (pv 1) rfl))) (fun _ _ _ _ _ => pv 5)) pe_int (fun _ _ => rfl))))))))), ?_⟩
    refine ⟨by show 2 ≤ sizeLine; omega, fun t0 ht0 => ⟨t0, _, rfl, SqT.of upd_same, rfl, _, _, rfl, _, _, rfl, rfl, ?_⟩⟩
    have s0 := same_upd (o := HO.tup [V.str "abcdefghijklmnopqrstuvwxyz", V.str ""]) ht0
    dsimp only
    have okL : ∀ z ∈ l, PyData.strOk z = true := fun z hz => by
      have hz := hc z hz
      unfold callerB at hz
      rw [Bool.or_eq_true, beq_iff_eq] at hz
      unfold PyData.strOk
      rw [Array.all_eq_true_iff_forall_mem]
      intro c hcm
      rcases hz with q | q
      · have hq := (name_let q).2 c (Array.mem_toList_iff.mpr hcm)
        have : ∀ c ∈ LT, c < 200 := by decide +kernel
        have := this c hq
        exact decide_eq_true (by omega)
      · subst q
        have : c ∈ [42] := Array.mem_toList_iff.mpr hcm
        rw [List.mem_singleton.mp this]
        rfl
    have Hu : ∀ {H' : Hp}, But H H' p → H' u = some (.lst (l.map V.str)) := fun {H'} b => b _ _ hu nup
    have b0 : But H (upd H t0 (.tup [V.str "abcdefghijklmnopqrstuvwxyz", V.str ""])) p := But.same' s0
    have w0 := hp.same s0
    generalize upd H t0 (.tup [V.str "abcdefghijklmnopqrstuvwxyz", V.str ""]) = H0 at b0 w0 ⊢
    refine cut1 (fun σ H' => But H H' p ∧ Well H' p ∧ ∃ (z : Str) (v4 v5 : Option V), LetS 12 z ∧ σ = [some (.ref p), some (.ref u), some (.str LTs), some (.str z), v4, v5]) ?_ ?_
    · intro N hN
      have keep : ∀ H' v4, But H H' p → Well H' p → N [some (.ref p), some (.ref u), some (.str LTs), some (.str ""), v4, none] H' := fun H' v4 b w => hN _ _ ⟨b, w, "", v4, none, ⟨Nat.zero_le _, fun c h => nomatch h⟩, rfl⟩
      refine ⟨_, rfl, by show 0 ≤ sizeLine; omega, fun q hq => ?_⟩
      have sq := same_upd (o := HO.lst []) hq
      have bq := b0.trans (But.same' sq)
      have wq := w0.same sq
      refine ⟨.list (l.map .str), .list [], .lst (SqL.of (Hu bq)) (dp_strs l), .lst (SqL.of upd_same) .nil, shaped_strs l okL, by decide +kernel, _, rfl, ?_⟩
      cases hl0 : l with
      | nil => exact iteF (next_of (keep _ _ bq wq))
      | cons y r =>
        rw [← hl0]
        have en : (!PyData.eqv (.list (l.map .str)) (.list [])) = true := by
          rw [hl0]
          simp [PyData.eqv, PyData.eqvAll]
        refine iteT' en ?_
        refine ⟨_, rfl, p, 2, rfl, wq, by decide, by decide, fun n H1 n0 n1 w1 b1 => ⟨rfl, _, rfl, ite2 (fun _ => ?_) (fun _ => next_of (keep _ _ (bq.trans b1) w1))⟩⟩
        have bq1 := bq.trans b1
        have ll : 0 < l.length := by rw [hl0]; exact Nat.succ_pos _
        refine ⟨_, rfl, _, rfl, p, u, l.map V.str, rfl, w1, Hu bq1, nup, by rw [List.length_map]; exact ll, by rw [List.length_map]; omega, fun i v H2 hv w2 b2 => ?_⟩
        rw [List.getElem?_map] at hv
        obtain ⟨z0, hz0, rfl⟩ := Option.map_eq_some_iff.mp hv
        have hz := hc z0 (List.mem_of_getElem? hz0)
        have hzl := repl_let hz
        have hzs : (Txt.replace z0 "*" "").length ≤ sizeLine := by have := hzl.1; omega
        have bq2 := bq1.trans b2
        refine ⟨z0, rfl, by show z0.length + (z0.length + 1) * 0 ≤ 16777216; have := (caller_len hz).2; omega, gn ?_⟩
        dsimp only
        generalize Txt.replace z0 "*" "" = z1 at hzl hzs ⊢
        refine ⟨_, rfl, p, 3, rfl, w2, by decide, by decide, fun n2 H3 _ _ w3 b3 => ⟨rfl, _, rfl, ite2 (fun _ => ?_) (fun _ => ?_)⟩⟩
        · refine ⟨_, rfl, 1, rfl, _, rfl, z1, rfl, hzs, gn ?_⟩
          obtain ⟨m, em⟩ := cutS_last z1
          exact hN _ _ ⟨bq2.trans b3, w3, _, _, none, (hzl.cut em).mono (Nat.min_le_right ..), rfl⟩
        · refine ⟨_, rfl, 11, rfl, z1, rfl, hzs, gn ?_⟩
          exact hN _ _ ⟨bq2.trans b3, w3, _, _, none, (hzl.cut (cutS_to z1 11)).mono (Nat.min_le_right ..), rfl⟩
    · rintro σ H1 ⟨b1, w1, z, v4, v5, hz, rfl⟩
      refine cut1 (fun σ H' => But H H' p ∧ Well H' p ∧ ∃ (z : Str) (v4 v5 : Option V), LetS 12 z ∧ 1 ≤ z.length ∧ σ = [some (.ref p), some (.ref u), some (.str LTs), some (.str z), v4, v5]) ?_ ?_
      · intro N hN
        refine ⟨_, rfl, by show 5 ≤ sizeLine; omega, fun q hq => ?_⟩
        have sq := same_upd (o := HO.lst [V.int 1, V.int 1, V.int 2, V.int 3, V.int 7]) hq
        refine ⟨p, q, _, rfl, w1.same sq, upd_same, well_ne w1 hq, by decide, by decide, fun i v H2 hv w2 b2 => ?_⟩
        obtain ⟨n, rfl, n1, n7⟩ : ∃ n : Int, v = .int n ∧ 1 ≤ n ∧ n ≤ 7 := by
          have hm := List.mem_of_getElem? hv
          simp only [List.mem_cons, List.not_mem_nil, or_false] at hm
          rcases hm with rfl | rfl | rfl | rfl | rfl <;> exact ⟨_, rfl, by decide, by decide⟩
        have b12 := b1.trans ((But.same' sq).trans b2)
        refine ⟨n, rfl, by omega, by omega, for_range (fun i σ Hx => But H Hx p ∧ Well Hx p ∧ ∃ (z : Str) (v4 v5 : Option V), LetS 12 z ∧ (0 < i → 1 ≤ z.length) ∧ σ = [some (.ref p), some (.ref u), some (.str LTs), some (.str z), v4, v5])
          ⟨b12, w2, z, v4, v5, hz, fun h => absurd h (Nat.lt_irrefl 0), rfl⟩ ?_ ?_⟩
        · rintro i σ Hx hi ⟨bx, wx, z, v4, v5, hz, _, rfl⟩
          refine gn ?_
          dsimp only
          have l26 : LTs.length = 26 := by decide +kernel
          refine ⟨_, rfl, _, rfl, _, rfl, p, LTs, rfl, wx, by omega, by omega, fun c H3 hcm w3 b3 => ?_⟩
          have hzc := hz.put (c := c) hcm
          have pl := put_len z c
          have hz1 := hz.1
          refine ⟨z, ⟨#[c]⟩, rfl, rfl, by show z.length + 1 ≤ sizeLine; omega, 12, rfl, _, rfl, by rw [pl]; omega, gn ?_⟩
          have ec := cutS_to (z ++ (⟨#[c]⟩ : Str)) 12
          refine ⟨bx.trans b3, w3, _, _, _, (hzc.cut ec).mono (Nat.min_le_left ..), fun _ => ?_, rfl⟩
          have := congrArg List.length ec
          rw [List.length_take, len_list, len_list, pl] at this
          show 1 ≤ (cutS (z ++ (⟨#[c]⟩ : Str)) none (some ((12 : Nat) : Int))).length
          omega
        · rintro σ Hx ⟨bx, wx, z, v4, v5, hz, h1, rfl⟩
          exact hN _ _ ⟨bx, wx, z, v4, v5, hz, h1 (by omega), rfl⟩
      · rintro σ H2 ⟨b2, w2, z, v4, v5, hz, hz1, rfl⟩
        refine cut1 (fun σ H' => But H H' p ∧ Well H' p ∧ ∃ (z : Str) (v4 v5 : Option V), callerB z = true ∧ σ = [some (.ref p), some (.ref u), some (.str LTs), some (.str z), v4, v5]) ?_ ?_
        · intro N hN
          refine ⟨_, rfl, p, 7, rfl, w2, by decide, by decide, fun n H3 _ _ w3 b3 => ⟨rfl, _, rfl, ite2 (fun _ => gn ?_) (fun _ => next_of ?_)⟩⟩
          · exact hN _ _ ⟨b2.trans b3, w3, "*", v4, v5, by decide +kernel, rfl⟩
          · exact hN _ _ ⟨b2.trans b3, w3, z, v4, v5, hz.caller hz1, rfl⟩
        · rintro σ H3 ⟨b3, w3, z, v4, v5, hz, rfl⟩
          refine ⟨_, rfl, _, rfl, u, _, rfl, .inl (SqL.of (Hu b3)), rfl, strs_flat _, _, rfl, ?_⟩
          cases hm : decide (z ∈ l) with
          | false =>
            refine iteT' (show (if true = true then !inV (.str z) (l.map V.str) else inV (.str z) (l.map V.str)) = true from by rw [if_pos rfl, strs_in, hm]; rfl) ⟨_, rfl, ?_⟩
            exact k z H3 b3 w3 hz (of_decide_eq_false hm)
          | true =>
            refine iteN' (show (if true = true then !inV (.str z) (l.map V.str) else inV (.str z) (l.map V.str)) = false from by rw [if_pos rfl, strs_in, hm]; rfl) ?_
            refine ⟨_, rfl, LTs, rfl, fun D hD => lc_it (walk_str (z := LTs)) (fun i Hx => Same H3 Hx ∧ ∃ ss : List Nat, Hx D = some (.lst (ss.map fun c => V.str ⟨#[c]⟩)) ∧ ss.length ≤ i ∧ (∀ c ∈ ss, c ∈ LT ∧ (⟨#[c]⟩ : Str) ∉ l) ∧ ∀ c ∈ LT.take i, (⟨#[c]⟩ : Str) ∉ l → c ∈ ss)
              ⟨same_upd hD, [], upd_same, Nat.le_refl _, (fun _ h => nomatch h), fun c h => by rw [List.take_zero] at h; cases h⟩ (fun _ _ _ _ => trivial) ?_ ?_⟩
            · rintro i x H4 H5 hi ⟨s4, ss, eD, ls, hin, hall⟩ ⟨rfl, c, hc, rfl⟩
              have hi26 : i < 26 := Nat.lt_of_lt_of_le hi (by decide +kernel)
              have hcl : LT[i]? = some c := (Array.getElem?_toList (xs := LTs.cps) (i := i)).trans hc
              have tk : LT.take (i + 1) = LT.take i ++ [c] := by
                rw [List.take_add_one, hcl]
                rfl
              refine ⟨rfl, ?_⟩
              refine ⟨_, rfl, _, rfl, u, _, rfl, .inl (SqL.of (s4 _ _ (Hu b3))), rfl, strs_flat _, _, rfl, ?_⟩
              cases hm2 : decide ((⟨#[c]⟩ : Str) ∈ l) with
              | false =>
                refine iteT' (show (if true = true then !inV (.str ⟨#[c]⟩) (l.map V.str) else inV (.str ⟨#[c]⟩) (l.map V.str)) = true from by rw [if_pos rfl, strs_in, hm2]; rfl) ⟨_, rfl, _, eD, by rw [List.length_map]; omega, same_put s4 hD, ss ++ [c], by rw [upd_same, List.map_append]; rfl, by rw [List.length_append, List.length_singleton]; omega, fun d hd => ?_, fun d hd hn => ?_⟩
                · rcases List.mem_append.mp hd with q | q
                  · exact hin d q
                  · rw [List.mem_singleton.mp q]
                    exact ⟨List.mem_of_getElem? hcl, of_decide_eq_false hm2⟩
                · rw [tk] at hd
                  rcases List.mem_append.mp hd with q | q
                  · exact List.mem_append_left _ (hall d q hn)
                  · exact List.mem_append_right _ q
              | true =>
                refine iteN' (show (if true = true then !inV (.str ⟨#[c]⟩) (l.map V.str) else inV (.str ⟨#[c]⟩) (l.map V.str)) = false from by rw [if_pos rfl, strs_in, hm2]; rfl) ⟨s4, ss, eD, Nat.le_succ_of_le ls, hin, fun d hd hn => ?_⟩
                rw [tk] at hd
                rcases List.mem_append.mp hd with q | q
                · exact hall d q hn
                · rw [List.mem_singleton.mp q] at hn
                  exact absurd (of_decide_eq_true hm2) hn
            · rintro Hx ⟨sx, ss, eD, ls, hin, hall⟩
              obtain ⟨c, hcL, hcn⟩ := free_let l hl
              have hcs := hall c (by rw [List.take_of_length_le (by decide +kernel)]; exact hcL) hcn
              cases ss with
              | nil => cases hcs
              | cons d r =>
                obtain ⟨h1, h2⟩ := hin d List.mem_cons_self
                refine ⟨D, _, ((0 : Nat) : Int), .str ⟨#[d]⟩, rfl, rfl, SqL.of eD, atI_nat rfl, ?_⟩
                refine k _ Hx (b3.trans (But.same' sx)) (w3.same sx) (LetS.caller ⟨by show 1 ≤ 12; decide, fun e he => ?_⟩ (by show 1 ≤ 1; decide)) h2
                have he : e ∈ [d] := he
                rw [List.mem_singleton.mp he]
                exact h1
end
end KP

set_option Elab.async false
set_option maxRecDepth 100000
set_option maxHeartbeats 4000000
set_option linter.all false
/-! Ours: _law_some_crawler. -/
namespace KP
open PySem PySem.Spec PyProof.Rows L2 Gr GxR PM
theorem tupDs_all {l : List PyData} (h : ∀ d ∈ l, tupD d = true) : tupDs l = true := by
  induction l with
  | nil => rfl
  | cons d l ih =>
    show (tupD d && tupDs l) = true
    rw [h d List.mem_cons_self, ih fun e he => h e (List.mem_cons_of_mem _ he)]
    rfl
theorem tupDs_map {α : Type} {f : α → PyData} (h : ∀ a, tupD (f a) = true) (l : List α) : tupDs (l.map f) = true := tupDs_all fun d hd => by
  obtain ⟨a, _, rfl⟩ := List.mem_map.mp hd
  exact h a
theorem grp_tup (g : Grp) : tupD (grpD g) = true := by
  have e1 : tupDs (g.names.map PyData.str) = true := tupDs_map (fun _ => rfl) _
  have e2 : tupDs (g.rows.map rowP) = true := tupDs_map (fun _ => rfl) _
  have e3 : tupDs (g.lim.map prD) = true := tupDs_map (fun _ => rfl) _
  have e4 : tupDs (g.hrs.map PyData.int) = true := tupDs_map (fun _ => rfl) _
  show (tupDs (g.names.map PyData.str) && (tupDs (g.rows.map rowP) && (tupDs (g.lim.map prD) && (tupDs (g.hrs.map PyData.int) && true)))) = true
  rw [e1, e2, e3, e4]
  rfl
theorem file_tup (gs : List Grp) : tupD (fileD gs) = true := tupDs_map grp_tup gs
def spSomeCrawler : Sp := fun vs H Q _ => ∃ (p : Addr) (v : V) (gs : List Grp), vs = [.ref p, v] ∧ Well H p ∧ Od H v (fileD gs) ∧ FileR gs ∧
  ∀ (z : Str) (H' : Hp), But H H' p → Well H' p → isName z = true → Q (.str z) H'
theorem caller_name {z : Str} (h : callerB z = true) (n : ¬ V.str z = V.str "*") : isName z = true := by
  unfold callerB at h
  rw [Bool.or_eq_true, beq_iff_eq] at h
  rcases h with q | q
  · exact q
  · exact absurd (congrArg V.str q) n
section
variable {P : Program} {w : World} {K : PySem.W.Frag} {mg : Str → Option Value} {base : Heap}
theorem sc_scrawl : FnScope ["_law_well_here", "_law_groups", "_law_names", "_law_letters", "_law_group_here", "_law_name", "_law_turn"] ["_law_well_here", "_law_groups"] (defScope s_l_some_crawler) := ⟨rfl, rfl, rfl, by decide +kernel, rfl, by decide +kernel, by decide +kernel⟩
theorem ok_scrawl (T : D K mg) : FnOk P w K mg base CX0 3 T.f_l_some_crawler T.d_l_some_crawler ["_law_well_here", "_law_groups"] spSomeCrawler := by
  refine T.U_l_some_crawler.ok sc_scrawl (fun vs H Q E h => ?_) (fun cdv A outer s H vs Q E hr h => ?_)
  · obtain ⟨p, v, gs, rfl, _⟩ := h
    rfl
  · obtain ⟨p, v, gs, rfl, hp, ov, R, k⟩ := h
    have nd := sc_scrawl.nd
    have mz : 5000 ≤ sizeLine := by decide
    refine ⟨_, pss_cons (ps_par (i := 2) (j := 3) (by rfl) nd rfl rfl (by decide) rfl rfl (pa_cons (pe_lst (pa_cons pe_str (pa_cons pe_str pa_nil))) (pa_cons pe_str pa_nil)) (by rfl))
      (pss_cons (ps_for PassesOwn.never rfl (pi_tup (pv 1)) (pg_name (i := 4) nd rfl (.inl rfl))
        (pss_one (ps_expr (pe_bm PySem.F.plainAttrs_list PySem.F.slot_list_extend PySem.F.type_list_extend mt_extend (pv 2) (pa_cons (pe_lc (own := [("_law_name", 5)]) (g := gName 5) rfl nd (pi_tup (pe_ix ix_tup (pv 4) pe_int (fun _ _ => rfl))) (blkOk_by (N := ["_law_well_here", "_law_groups", "_law_names", "_law_letters", "_law_group_here", "_law_name", "_law_turn"]) (sc := defScope s_l_some_crawler) (by decide +kernel)) (fun _ _ _ _ _ => pg_name (i := 5) nd rfl (.inl rfl)) (fun _ _ _ _ _ => (pts_one (pt_cmpR op_ne (pv 5) pe_str (nomark _)))) (fun _ _ _ _ _ => pv 5)) pa_nil)))))
      (pss_cons (ps_set (i := 5) nd rfl (.inl rfl) (pe_call (ok_l_one T) hr rfl T.g_l_one T.U_l_one.kp T.b_l_one .nil pass0 (pa_cons (pv 0) (pa_cons (pv 2) pa_nil))))
      (pss_cons (ps_if (PW.pt (pw_and (pt_cmpR op_eq (pe_call (ok_l_pick T) (hr.mono (by decide)) rfl T.g_l_pick T.U_l_pick.kp T.b_l_pick .nil pass0 (pa_cons (pv 0) (pa_cons pe_int pa_nil))) pe_int (nomark _)) (pw_and1 (pt_cmpR op_gt (pe_callB call_len_str (by rfl) T.len PySem.boot_len (pa_cons (pv 5) pa_nil)) pe_int (nomark _)))))
        (pss_one (ps_set (i := 5) nd rfl (.inl rfl) (pe_slice sl_str (pv 5) po_none (po_some (pe_un un_neg pe_int)))))
        (pss_nil))
      (pss_cons (ps_for PassesOwn.never rfl (pi_range1 rfl T.range (pa_cons (pe_call (ok_l_one T) hr rfl T.g_l_one T.U_l_one.kp T.b_l_one .nil pass0 (pa_cons (pv 0) (pa_cons (pe_lst (pa_cons pe_int (pa_cons pe_int (pa_cons pe_int (pa_cons pe_int pa_nil))))) pa_nil))) pa_nil)) (pg_name (i := 6) nd rfl (.inl rfl))
        (pss_one (ps_set (i := 5) nd rfl (.inl rfl) (pe_slice sl_str (pe_op op_add_str (pv 5) (pe_call (ok_l_oneS T) hr rfl T.g_l_one T.U_l_one.kp T.b_l_one .nil pass0 (pa_cons (pv 0) (pa_cons (pv 3) pa_nil)))) po_none (po_some pe_int)))))
      (pss_one (ps_ret (pv 5))))))), ?_⟩
    obtain ⟨a, xs, rfl, ea, oa⟩ := od_tup ov
    have lx : xs.length = gs.length := by rw [oa.len, List.length_map]
    have l4 := R.len
    refine ⟨by show 2 ≤ sizeLine; omega, fun Dn hDn => ⟨_, _, rfl, ?_⟩⟩
    have sD := same_upd (o := HO.lst [V.str "a", V.str "q"]) hDn
    refine ⟨_, rfl, a, rfl, ⟨xs, SqT.of (sD _ _ ea)⟩, for_tup (xs := xs) (fun i σ Hx => Same H Hx ∧ ∃ (l : List Str) (v4 : Option V), σ = [some (.ref p), some (.ref a), some (.ref Dn), some (.str LTs), v4, none, none] ∧ Hx Dn = some (.lst (l.map V.str)) ∧ 0 < l.length ∧ l.length ≤ 2 + 3 * i ∧ ∀ z ∈ l, isName z = true)
      ⟨sD, ["a", "q"], none, rfl, upd_same, by decide, by decide, by decide +kernel⟩ (fun i σ Hx _ q => SqT.of (q.1 _ _ ea)) ?_ ?_⟩
    · rintro i x σ Hx hx ⟨sx, l, v4, rfl, eD, l0, l1, ln⟩
      obtain ⟨d, hd, oy⟩ := od_at oa hx
      rw [List.getElem?_map] at hd
      obtain ⟨g, hgi, rfl⟩ := Option.map_eq_some_iff.mp hd
      obtain ⟨b, ys, rfl, eb0, ob⟩ := od_tup (show Od H x (.tuple [.tuple (g.names.map .str), .tuple (g.rows.map rowP), .tuple (g.lim.map prD), .tuple (g.hrs.map .int)]) from oy)
      obtain ⟨x1, x2, x3, x4, rfl, o1, o2, o3, o4⟩ := od4 ob
      obtain ⟨na, nx, rfl, en, on⟩ := od_tup o1
      obtain rfl := od_strs on
      have G := R.grp g (List.mem_of_getElem? hgi)
      refine gn ?_
      dsimp only
      refine ⟨_, rfl, .inl ⟨rfl, _, SqL.of eD⟩, ?_⟩
      refine ⟨_, rfl, b, _, 0, _, rfl, rfl, SqT.of (sx _ _ eb0), rfl, na, rfl, ⟨_, SqT.of (sx _ _ en)⟩, fun Em hE => lc_it (walk_tup (K := K) (a := na) (xs := g.names.map V.str)) (fun i Hy => Same Hx Hy ∧ ∃ m : List Str, Hy Em = some (.lst (m.map V.str)) ∧ m.length ≤ i ∧ ∀ z ∈ m, isName z = true)
        ⟨same_upd hE, [], upd_same, Nat.le_refl _, fun _ h => nomatch h⟩ (fun i Hy _ q => SqT.of (q.1 _ _ (sx _ _ en))) ?_ ?_⟩
      · rintro i2 x H3 H4 hi ⟨s3, m, eE, lm, hm⟩ ⟨rfl, hx2⟩
        rw [List.getElem?_map] at hx2
        obtain ⟨z, hz, rfl⟩ := Option.map_eq_some_iff.mp hx2
        have hi3 : i2 < 3 := by
          rw [List.length_map] at hi
          have := G.n1
          omega
        refine ⟨rfl, ?_⟩
        refine ⟨_, rfl, rfl, _, rfl, ?_⟩
        refine ite2 (fun hq => ?_) (fun hq => ?_)
        · have hn : ¬ V.str z = V.str "*" := by
            have : (!decide (V.str z = V.str "*")) = true := hq
            rw [Bool.not_eq_true', decide_eq_false_iff_not] at this
            exact this
          refine ⟨_, rfl, _, eE, by rw [List.length_map]; omega, same_put s3 hE, m ++ [z], by rw [upd_same, List.map_append]; rfl, by rw [List.length_append, List.length_singleton]; omega, fun y hy => ?_⟩
          rcases List.mem_append.mp hy with q | q
          · exact hm y q
          · rw [List.mem_singleton.mp q]
            exact caller_name (G.nm z (List.mem_of_getElem? hz)) hn
        · exact ⟨s3, m, eE, Nat.le_succ_of_le lm, hm⟩
      · rintro Hy ⟨sy, m, eE, lm, hm⟩
        have lm3 : m.length ≤ 3 := by
          rw [List.length_map] at lm
          exact Nat.le_trans lm G.n1
        have hi4 : i < 4 := by
          have := (List.getElem?_eq_some_iff.mp hx).1
          omega
        refine ⟨Dn, Em, _, _, rfl, rfl, sy _ _ eD, eE, by rw [List.length_map, List.length_map]; omega, ?_⟩
        refine ⟨same_put (sx.trans sy) hDn, l ++ m, some (.ref b), rfl, by rw [upd_same, List.map_append], by rw [List.length_append]; omega, by rw [List.length_append]; omega, fun z hz => ?_⟩
        rcases List.mem_append.mp hz with q | q
        · exact ln z q
        · exact hm z q
    · rintro σ H1 ⟨s1, l, v4, rfl, eD, l0, l1, ln⟩
      have nDp := well_ne hp hDn
      have l14 : l.length ≤ 14 := by omega
      have w1 := hp.same s1
      refine ⟨_, rfl, _, rfl, p, Dn, _, rfl, w1, eD, nDp, by rw [List.length_map]; exact l0, by rw [List.length_map]; omega, fun i v H2 hv w2 b2 => gn ?_⟩
      rw [List.getElem?_map] at hv
      obtain ⟨z, hz, rfl⟩ := Option.map_eq_some_iff.mp hv
      have hzn := ln z (List.mem_of_getElem? hz)
      have b02 : But H H2 p := (But.same' s1).trans b2
      dsimp only
      refine cut1 (fun σ H' => But H H' p ∧ Well H' p ∧ ∃ (z : Str) (v6 : Option V), LetS 12 z ∧ 1 ≤ z.length ∧ σ = [some (.ref p), some (.ref a), some (.ref Dn), some (.str LTs), v4, some (.str z), v6]) ?_ ?_
      · intro N hN
        refine ⟨_, rfl, p, 3, rfl, w2, by decide, by decide, fun n H3 _ _ w3 b3 => ⟨rfl, _, rfl, ite2 (fun _ => ?_) (fun _ => next_of ?_)⟩⟩
        · have hzl := name_let hzn
          have hzs : z.length ≤ sizeLine := by have := hzl.1; omega
          refine ⟨_, rfl, z, rfl, hzs, _, _, rfl, rfl, _, rfl, ite2 (fun hg => ?_) (fun _ => next_of ?_)⟩
          · refine ⟨_, rfl, 1, rfl, _, rfl, z, rfl, hzs, gn ?_⟩
            have hg : decide ((1 : Int) < (z.length : Nat)) = true := hg
            have hg := of_decide_eq_true hg
            obtain ⟨m, em⟩ := cutS_last z
            refine hN _ _ ⟨b02.trans b3, w3, _, none, (hzl.cut em).mono (Nat.min_le_right ..), ?_, rfl⟩
            have e9 : (cutS z none (some (-1))).cps.toList = z.cps.toList.take (z.length - 1) := by
              have e8 : HT.sIx z.length z.length (some (-1)) = z.length - 1 := by
                show (if (-1 : Int) < 0 then (-1 + ((z.length : Nat) : Int)).toNat else min (-1 : Int).toNat z.length) = _
                rw [if_pos (by decide)]
                omega
              unfold cutS
              rw [HT.sIx_none, List.drop_zero, Nat.sub_zero, e8]
            have := congrArg List.length e9
            rw [List.length_take, len_list, len_list] at this
            show 1 ≤ (cutS z none (some (-1))).length
            omega
          · exact hN _ _ ⟨b02.trans b3, w3, z, none, hzl, (isName_len hzn).1, rfl⟩
        · exact hN _ _ ⟨b02.trans b3, w3, z, none, name_let hzn, (isName_len hzn).1, rfl⟩
      · rintro σ H3 ⟨b3, w3, z, v6, hz, hz1, rfl⟩
        refine ⟨_, rfl, by show 4 ≤ sizeLine; omega, fun q hq => ?_⟩
        have sq := same_upd (o := HO.lst [V.int 0, V.int 0, V.int 1, V.int 3]) hq
        refine ⟨p, q, _, rfl, w3.same sq, upd_same, well_ne w3 hq, by decide, by decide, fun i v H4 hv w4 b4 => ?_⟩
        obtain ⟨n, rfl, n0, n7⟩ : ∃ n : Int, v = .int n ∧ 0 ≤ n ∧ n ≤ 3 := by
          have hm := List.mem_of_getElem? hv
          simp only [List.mem_cons, List.not_mem_nil, or_false] at hm
          rcases hm with rfl | rfl | rfl | rfl <;> exact ⟨_, rfl, by decide, by decide⟩
        have b34 := b3.trans ((But.same' sq).trans b4)
        refine ⟨n, rfl, by omega, by omega, for_range (fun i σ Hx => But H Hx p ∧ Well Hx p ∧ ∃ (z : Str) (v6 : Option V), LetS 12 z ∧ 1 ≤ z.length ∧ σ = [some (.ref p), some (.ref a), some (.ref Dn), some (.str LTs), v4, some (.str z), v6])
          ⟨b34, w4, z, v6, hz, hz1, rfl⟩ ?_ ?_⟩
        · rintro i σ Hx hi ⟨bx, wx, z, v6, hz, hz1, rfl⟩
          refine gn ?_
          dsimp only
          have l26 : LTs.length = 26 := by decide +kernel
          refine ⟨_, rfl, _, rfl, _, rfl, p, LTs, rfl, wx, by omega, by omega, fun c H3 hcm w3 b3 => ?_⟩
          have hzc := hz.put (c := c) hcm
          have pl := put_len z c
          have hz1' := hz.1
          refine ⟨z, ⟨#[c]⟩, rfl, rfl, by show z.length + 1 ≤ sizeLine; omega, 12, rfl, _, rfl, by rw [pl]; omega, gn ?_⟩
          have ec := cutS_to (z ++ (⟨#[c]⟩ : Str)) 12
          refine ⟨bx.trans b3, w3, _, _, (hzc.cut ec).mono (Nat.min_le_left ..), ?_, rfl⟩
          have := congrArg List.length ec
          rw [List.length_take, len_list, len_list, pl] at this
          show 1 ≤ (cutS (z ++ (⟨#[c]⟩ : Str)) none (some ((12 : Nat) : Int))).length
          omega
        · rintro σ Hx ⟨bx, wx, z, v6, hz, hz1, rfl⟩
          exact ⟨_, rfl, k z Hx bx wx (hz.name hz1)⟩
end
end KP

set_option Elab.async false
set_option maxRecDepth 100000
set_option maxHeartbeats 4000000
set_option linter.all false
/-! Ours: _law_some_file. -/
namespace KP
open PySem PySem.Spec PyProof.Rows L2 Gr GxR PM
theorem but_ts {H H' : Hp} {p : Addr} (w : Well H p) (b : But H H' p) : TupStay H H' := fun a xs e => b a _ e fun z => by
  obtain ⟨_, _, _, ew⟩ := w
  rw [z, ew] at e
  cases e
def spSomeFile : Sp := fun vs H Q _ => ∃ p : Addr, vs = [.ref p, .int 4] ∧ Well H p ∧
  ∀ (v : V) (gs : List Grp) (H' : Hp), But H H' p → Well H' p → Od H' v (fileD gs) → FileR gs → Q v H'
section
variable {P : Program} {w : World} {K : PySem.W.Frag} {mg : Str → Option Value} {base : Heap}
theorem sc_sfile : FnScope ["_law_well_here", "_law_top", "_law_groups", "_law_used", "_law_signs_here", "_law_turn", "_law_names", "_law_number", "_law_paths"] ["_law_well_here", "_law_top"] (defScope s_l_some_file) := ⟨rfl, rfl, rfl, by decide +kernel, rfl, by decide +kernel, by decide +kernel⟩
theorem ok_sfile (T : D K mg) : FnOk P w K mg base CX0 5 T.f_l_some_file T.d_l_some_file ["_law_well_here", "_law_top"] spSomeFile := by
  refine T.U_l_some_file.ok sc_sfile (fun vs H Q E h => ?_) (fun cdv A outer s H vs Q E hr h => ?_)
  · obtain ⟨p, rfl, _⟩ := h
    rfl
  · obtain ⟨p, rfl, hp, k⟩ := h
    have nd := sc_sfile.nd
    have mz : 5000 ≤ sizeLine := by decide
    refine ⟨_, pss_cons (ps_par3 (i := 2) (j := 3) (l := 4) (by rfl) nd rfl rfl rfl (by decide) (by decide) (by decide) rfl rfl rfl (pa_cons (pe_lst pa_nil) (pa_cons (pe_lst pa_nil) (pa_cons (pe_call (ok_l_alphabet T) (hr.mono (by decide)) rfl T.g_l_alphabet T.U_l_alphabet.kp T.b_l_alphabet .nil pass0 (pa_cons (pv 0) pa_nil)) pa_nil))) (by rfl))
      (pss_cons (ps_for PassesOwn.never rfl (pi_range1 rfl T.range (pa_cons (pe_call (ok_l_pick T) (hr.mono (by decide)) rfl T.g_l_pick T.U_l_pick.kp T.b_l_pick .nil pass0 (pa_cons (pv 0) (pa_cons (pe_op op_add (pv 1) pe_int) pa_nil))) pa_nil)) (pg_name (i := 5) nd rfl (.inl rfl))
        (pss_cons (ps_set (i := 6) nd rfl (.inl rfl) (pe_lst pa_nil))
        (pss_cons (ps_for PassesOwn.never rfl (pi_range1 rfl T.range (pa_cons (pe_call (ok_l_one T) (hr.mono (by decide)) rfl T.g_l_one T.U_l_one.kp T.b_l_one .nil pass0 (pa_cons (pv 0) (pa_cons (pe_lst (pa_cons pe_int (pa_cons pe_int (pa_cons pe_int (pa_cons pe_int pa_nil))))) pa_nil))) pa_nil)) (pg_name (i := 7) nd rfl (.inl rfl))
          (pss_one (ps_expr (pe_bm PySem.F.plainAttrs_list PySem.F.slot_list_append PySem.F.type_list_append mt_append (pv 6) (pa_cons (pe_call (ok_sname T) (hr.mono (by decide)) rfl T.g_l_some_name T.U_l_some_name.kp T.b_l_some_name .nil pass0 (pa_cons (pv 0) (pa_cons (pe_op op_cat (pv 3) (pv 6)) pa_nil))) pa_nil)))))
        (pss_cons (ps_expr (pe_bm PySem.F.plainAttrs_list PySem.F.slot_list_extend PySem.F.type_list_extend mt_extend (pv 3) (pa_cons (pv 6) pa_nil)))
        (pss_cons (ps_set (i := 8) nd rfl (.inl rfl) (pe_call (ok_srows T) hr rfl T.g_l_some_rows T.U_l_some_rows.kp T.b_l_some_rows .nil pass0 (pa_cons (pv 0) (pa_cons (pv 4) (pa_cons (pe_call (ok_l_one T) (hr.mono (by decide)) rfl T.g_l_one T.U_l_one.kp T.b_l_one .nil pass0 (pa_cons (pv 0) (pa_cons (pe_lst (pa_cons pe_int (pa_cons pe_int (pa_cons pe_int (pa_cons pe_int (pa_cons pe_int pa_nil)))))) pa_nil))) pa_nil)))))
        (pss_one (ps_expr (pe_bm PySem.F.plainAttrs_list PySem.F.slot_list_append PySem.F.type_list_append mt_append (pv 2) (pa_cons (pe_tup (pa_cons (pe_callTy call_tuple_of (by rfl) T.tuple (by decide +kernel) (pa_cons (pv 6) pa_nil)) (pa_cons (pv 8) (pa_cons (pe_call (ok_slim T) (hr.mono (by decide)) rfl T.g_l_some_limits T.U_l_some_limits.kp T.b_l_some_limits .nil pass0 (pa_cons (pv 0) (pa_cons pe_int (pa_cons pe_int pa_nil)))) (pa_cons (pe_call (ok_shrs T) (hr.mono (by decide)) rfl T.g_l_some_hours T.U_l_some_hours.kp T.b_l_some_hours .nil pass0 (pa_cons (pv 0) (pa_cons pe_int pa_nil))) pa_nil))))) pa_nil)))))))))
      (pss_one (ps_ret (pe_callTy call_tuple_of (by rfl) T.tuple (by decide +kernel) (pa_cons (pv 2) pa_nil))))), ?_⟩
    refine ⟨by show 0 ≤ sizeLine; omega, fun Gl hGl => ⟨by show 0 ≤ sizeLine; omega, fun Ul hUl => ?_⟩⟩
    have sG := same_upd (o := HO.lst []) hGl
    have sU := same_upd (o := HO.lst []) hUl
    refine ⟨_, rfl, p, rfl, (hp.same sG).same sU, fun Sg sx H1 hSg b1 w1 eS sx0 sx9 hone => ?_⟩
    refine ⟨_, _, _, rfl, ?_⟩
    dsimp only
    have nG := well_ne hp hGl
    have nU := well_ne (hp.same sG) hUl
    have nGU : Gl ≠ Ul := fun z => by rw [← z, upd_same] at hUl; cases hUl
    have hU0 : H Ul = none := none_back sG hUl
    have bH : But H H1 p := ((But.same' sG).trans (But.same' sU)).trans b1
    have eG1 : H1 Gl = some (.lst []) := b1 _ _ (sU _ _ upd_same) nG
    have eU1 : H1 Ul = some (.lst []) := b1 _ _ upd_same nU
    have nS : Sg ≠ p := fun z => by
      obtain ⟨_, _, _, ew⟩ := hp
      rw [z] at hSg
      rw [(sG.trans sU) _ _ ew] at hSg
      cases hSg
    have nSG : Sg ≠ Gl := fun z => by rw [z, sU _ _ upd_same] at hSg; cases hSg
    have nSU : Sg ≠ Ul := fun z => by rw [z, upd_same] at hSg; cases hSg
    refine ⟨_, rfl, _, rfl, _, _, rfl, rfl, p, 4 + 1, rfl, w1, by decide, by decide, fun n H2 n0 n5 w2 b2 => ?_⟩
    have bH2 := bH.trans b2
    have hone' : ∀ v ∈ sx, OneS v := hone
    refine ⟨n, rfl, by omega, by omega, for_range (fun i σ Hx => But H Hx p ∧ Well Hx p ∧ Hx Sg = some (.lst sx) ∧ ∃ (gs : List Grp) (vs : List V) (v5 v6 v7 v8 : Option V), Hx Gl = some (.lst vs) ∧ OdAll Hx vs (gs.map grpD) ∧ Hx Ul = some (.lst ((gs.flatMap Grp.names).map V.str)) ∧ gs.length = i ∧ (∀ g ∈ gs, GrpR g) ∧ (gs.flatMap Grp.names).Nodup ∧ σ = [some (.ref p), some (.int 4), some (.ref Gl), some (.ref Ul), some (.ref Sg), v5, v6, v7, v8])
      ⟨bH2, w2, b2 _ _ eS nS, [], [], none, none, none, none, b2 _ _ eG1 nG, .nil, b2 _ _ eU1 nU, rfl, (fun _ h => nomatch h), .nil, rfl⟩ ?_ ?_⟩
    · rintro i σ Hx hi ⟨bx, wx, eSx, gs, vs, v5, v6, v7, v8, eGx, oG, eUx, lg, hgr, hnd, rfl⟩
      have hi4 : i < 4 := by omega
      refine gn ?_
      dsimp only
      refine ⟨by show 0 ≤ sizeLine; omega, fun Nl hNl => gn ?_⟩
      dsimp only
      have sN := same_upd (o := HO.lst []) hNl
      have nNp := well_ne wx hNl
      have fl : ((gs.flatMap Grp.names)).length ≤ 3 * gs.length := by
        have : ∀ l : List Grp, (∀ g ∈ l, g.names.length ≤ 3) → (l.flatMap Grp.names).length ≤ 3 * l.length := by
          intro l
          induction l with
          | nil => intro _; exact Nat.le_refl _
          | cons y l ih =>
            intro h
            rw [List.flatMap_cons, List.length_append, List.length_cons]
            have h1 := h y List.mem_cons_self
            have h2 := ih fun g hg => h g (List.mem_cons_of_mem _ hg)
            omega
        exact this _ fun g hg => (hgr g hg).n1
      have fc : ∀ z ∈ gs.flatMap Grp.names, callerB z = true := fun z hz => by
        obtain ⟨g, hg, hz⟩ := List.mem_flatMap.mp hz
        exact (hgr g hg).nm z hz
      refine ⟨_, rfl, by show 4 ≤ sizeLine; omega, fun q hq => ?_⟩
      have sq := same_upd (o := HO.lst [V.int 1, V.int 1, V.int 2, V.int 3]) hq
      have wN := wx.same sN
      refine ⟨p, q, _, rfl, wN.same sq, upd_same, well_ne wN hq, by decide, by decide, fun j v H4 hv w4 b4 => ?_⟩
      obtain ⟨c, rfl, c1, c3⟩ : ∃ n : Int, v = .int n ∧ 1 ≤ n ∧ n ≤ 3 := by
        have hm := List.mem_of_getElem? hv
        simp only [List.mem_cons, List.not_mem_nil, or_false] at hm
        rcases hm with rfl | rfl | rfl | rfl <;> exact ⟨_, rfl, by decide, by decide⟩
      have bx4 : But Hx H4 p := ((But.same' sN).trans (But.same' sq)).trans b4
      have eN4 : H4 Nl = some (.lst []) := b4 _ _ (sq _ _ upd_same) nNp
      refine ⟨c, rfl, by omega, by omega, for_range (fun k σ Hy => But Hx Hy p ∧ Well Hy p ∧ ∃ (m : List Str) (v7 : Option V), Hy Nl = some (.lst (m.map V.str)) ∧ m.length = k ∧ (∀ z ∈ m, callerB z = true) ∧ (gs.flatMap Grp.names ++ m).Nodup ∧ σ = [some (.ref p), some (.int 4), some (.ref Gl), some (.ref Ul), some (.ref Sg), some (.int (0 + (i : Nat))), some (.ref Nl), v7, v8])
        ⟨bx4, w4, [], _, eN4, rfl, (fun _ h => nomatch h), by rw [List.append_nil]; exact hnd, rfl⟩ ?_ ?_⟩
      · rintro k2 σ Hy hk ⟨by_, wy, m, v7', eN, lm, hm, nm, rfl⟩
        refine gn ?_
        dsimp only
        have eU := by_ _ _ eUx nU
        refine ⟨_, rfl, .inl ⟨rfl, _, SqL.of eN⟩, ?_⟩
        refine ⟨_, rfl, _, rfl, _, rfl, Ul, Nl, _, _, rfl, rfl, eU, eN, by rw [List.length_map, List.length_map]; omega, fun l2 h2 => ?_⟩
        have s2 := same_upd (o := HO.lst ((gs.flatMap Grp.names).map V.str ++ m.map V.str)) h2
        refine ⟨p, l2, gs.flatMap Grp.names ++ m, rfl, wy.same s2, by rw [upd_same, List.map_append], well_ne wy h2, by rw [List.length_append]; omega, fun z hz => ?_, fun z H5 b5 w5 hz hn => ?_⟩
        · rcases List.mem_append.mp hz with q | q
          · exact fc z q
          · exact hm z q
        · have e5 := b5 _ _ (s2 _ _ eN) nNp
          refine ⟨Nl, _, .str z, rfl, rfl, e5, by rw [List.length_map]; omega, ?_⟩
          refine ⟨(by_.trans ((But.same' s2).trans b5)).put hNl, w5.put nNp, m ++ [z], _, by rw [upd_same, List.map_append]; rfl, by rw [List.length_append, lm]; rfl, fun y hy => ?_, ?_, rfl⟩
          · rcases List.mem_append.mp hy with q | q
            · exact hm y q
            · rw [List.mem_singleton.mp q]
              exact hz
          · rw [← List.append_assoc]
            exact List.nodup_append.mpr ⟨nm, List.nodup_cons.mpr ⟨(by simp), List.nodup_nil⟩, fun a ha b hb e => hn (by rw [List.mem_singleton.mp hb] at e; rw [← e]; exact ha)⟩
      · rintro σ Hy ⟨by_, wy, m, v7', eN, lm, hm, nm, rfl⟩
        have eU := by_ _ _ eUx nU
        have eS' := by_ _ _ eSx nS
        have eG' := by_ _ _ eGx nG
        dsimp only
        refine ⟨_, rfl, .inl ⟨rfl, _, SqL.of eU⟩, _, rfl, Ul, Nl, _, _, rfl, rfl, eU, eN, by rw [List.length_map, List.length_map]; omega, ?_⟩
        have nNU : Nl ≠ Ul := fun z => by rw [z, eUx] at hNl; cases hNl
        have bZ : But H (upd Hy Ul (.lst ((gs.flatMap Grp.names).map V.str ++ m.map V.str))) p := (bx.trans by_).put hU0
        have wZ : Well (upd Hy Ul (.lst ((gs.flatMap Grp.names).map V.str ++ m.map V.str))) p := wy.put nU
        have eGZ : upd Hy Ul (.lst ((gs.flatMap Grp.names).map V.str ++ m.map V.str)) Gl = some (.lst vs) := (upd_ne nGU).trans eG'
        have eSZ : upd Hy Ul (.lst ((gs.flatMap Grp.names).map V.str ++ m.map V.str)) Sg = some (.lst sx) := (upd_ne nSU).trans eS'
        have eNZ : upd Hy Ul (.lst ((gs.flatMap Grp.names).map V.str ++ m.map V.str)) Nl = some (.lst (m.map V.str)) := (upd_ne nNU).trans eN
        have eUZ : upd Hy Ul (.lst ((gs.flatMap Grp.names).map V.str ++ m.map V.str)) Ul = some (.lst ((gs.flatMap Grp.names ++ m).map V.str)) := by rw [upd_same, List.map_append]
        have oZ := OdAll.ts ((but_ts wx by_).trans (ts_put (o := .lst ((gs.flatMap Grp.names).map V.str ++ m.map V.str)) eU)) oG (tupDs_map grp_tup gs)
        generalize upd Hy Ul (.lst ((gs.flatMap Grp.names).map V.str ++ m.map V.str)) = Hz at bZ wZ eGZ eSZ eNZ eUZ oZ ⊢
        refine ⟨_, rfl, _, rfl, _, rfl, by show 5 ≤ sizeLine; omega, fun q2 hq2 => ?_⟩
        have sq2 := same_upd (o := HO.lst [V.int 1, V.int 2, V.int 2, V.int 3, V.int 6]) hq2
        refine ⟨p, q2, _, rfl, wZ.same sq2, upd_same, well_ne wZ hq2, by decide, by decide, fun j2 v2 H6 hv2 w6 b6 => ?_⟩
        obtain ⟨tp, rfl, tp1, tp6⟩ : ∃ n : Int, v2 = .int n ∧ 1 ≤ n ∧ n ≤ 6 := by
          have hm := List.mem_of_getElem? hv2
          simp only [List.mem_cons, List.not_mem_nil, or_false] at hm
          rcases hm with rfl | rfl | rfl | rfl | rfl <;> exact ⟨_, rfl, by decide, by decide⟩
        have bZ6 := (But.same' (p := p) sq2).trans b6
        refine ⟨p, Sg, sx, tp, rfl, tp1, tp6, w6, bZ6 _ _ eSZ nS, nS, sx0, by omega, hone', fun ra ry rows H7 b7 w7 nra era ora Rr => gn ?_⟩
        dsimp only
        have bZ7 := bZ6.trans b7
        refine ⟨_, rfl, .inl ⟨rfl, _, SqL.of (bZ7 _ _ eGZ nG)⟩, _, rfl, Nl, _, rfl, .inl ⟨SqL.of (bZ7 _ _ eNZ nNp), fun R1 hR1 => ?_⟩⟩
        have sR := same_upd (o := HO.tup (m.map V.str)) hR1
        refine ⟨_, rfl, _, rfl, p, 6, 12, rfl, w7.same sR, by decide, by decide, by decide, by decide, fun v3 d3 H8 b8 w8 o3 r3 => ?_⟩
        refine ⟨_, rfl, p, 12, rfl, w8, by decide, by decide, fun v4 d4 H9 b9 w9 o4 r4 => ?_⟩
        obtain ⟨ps, rfl, hps⟩ := r3
        obtain ⟨hs, rfl, hh0, hh1, hh2, hh3⟩ := r4
        refine ⟨by show 4 ≤ sizeLine; omega, fun t ht => ?_⟩
        have st := same_upd (o := HO.tup [V.ref R1, V.ref ra, v3, v4]) ht
        have bZf := bZ7.trans ((But.same' sR).trans (b8.trans (b9.trans (But.same' st))))
        have eGf := bZf _ _ eGZ nG
        have lvs : vs.length = gs.length := by have := oG.len; rw [List.length_map] at this; exact this
        refine ⟨Gl, vs, .ref t, rfl, rfl, eGf, by omega, ?_⟩
        have tsP := ts_put (o := HO.lst (vs ++ [V.ref t])) eGf
        have ts9 : TupStay H9 _ := (same_ts st).trans tsP
        have ts8 := (but_ts w8 b9).trans ts9
        have ts7 := (same_ts sR).trans ((but_ts (w7.same sR) b8).trans ts8)
        have tsZ := (but_ts wZ bZ7).trans ts7
        have G : GrpR ⟨m, rows, ps, hs⟩ := ⟨by show 1 ≤ m.length; omega, by show m.length ≤ 3; omega, hm, Rr, hps, hh0, hh1, hh2, hh3⟩
        refine ⟨(bZ.trans bZf).put hGl, ((w9.same st)).put nG, (upd_ne nSG).trans (bZf _ _ eSZ nS), gs ++ [⟨m, rows, ps, hs⟩], vs ++ [.ref t], _, _, _, _, upd_same, ?_, ?_, by rw [List.length_append, lg]; rfl, fun g hg => ?_, ?_, rfl⟩
        · rw [List.map_append]
          refine (OdAll.ts tsZ oZ (tupDs_map grp_tup gs)).app (.cons (.tup (tsP _ _ upd_same) (.cons ?_ (.cons ?_ (.cons ?_ (.cons ?_ .nil))))) .nil)
          · exact .tup (((but_ts (w7.same sR) b8).trans ts8) _ _ upd_same) (strs_od m)
          · exact .tup (ts7 _ _ era) (OdAll.ts ts7 (ora.same (hide_same _ _)) (tupDs_map (fun _ => rfl) rows))
          · exact Od.ts ts8 (o3.same (hide_same _ _)) (tupDs_map (fun _ => rfl) ps)
          · exact Od.ts ts9 (o4.same (hide_same _ _)) (tupDs_map (fun _ => rfl) hs)
        · rw [upd_ne (Ne.symm nGU), List.flatMap_append]
          have := bZf _ _ eUZ nU
          rw [this]
          show _ = some (HO.lst ((gs.flatMap Grp.names ++ (m ++ [])).map V.str))
          rw [List.append_nil]
        · rcases List.mem_append.mp hg with q | q
          · exact hgr g q
          · rw [List.mem_singleton.mp q]
            exact G
        · rw [List.flatMap_append]
          show (gs.flatMap Grp.names ++ (m ++ [])).Nodup
          rw [List.append_nil]
          exact nm
    · rintro σ Hx ⟨bx, wx, eSx, gs, vs, v5, v6, v7, v8, eGx, oG, eUx, lg, hgr, hnd, rfl⟩
      refine ⟨_, rfl, Gl, vs, rfl, .inl ⟨SqL.of eGx, fun R1 hR1 => ?_⟩⟩
      have sR := same_upd (o := HO.tup vs) hR1
      exact k _ gs _ (bx.trans (But.same' sR)) (wx.same sR) (.tup upd_same (oG.same sR)) ⟨by omega, hgr, hnd⟩
end
end KP

set_option Elab.async false
set_option maxRecDepth 100000
set_option maxHeartbeats 4000000
set_option linter.all false
/-! Ours: math.lcm of small numbers; min(numbers, default=k). -/
namespace Gr
open PySem PySem.Spec PyProof.Rows L2 GxR
def rLcm : List V → Hp → VK → Prop := fun vs H Q => ∃ a b : Nat, vs = [.int (a : Nat), .int (b : Nat)] ∧ a ≤ 1000 ∧ b ≤ 1000 ∧ Q (.int ((Nat.lcm a b : Nat) : Int)) H
theorem lcm_le (a b : Nat) (ha : a ≤ 1000) (hb : b ≤ 1000) : Nat.lcm a b ≤ 1000000 := by
  refine Nat.le_trans (Nat.div_le_self _ _) ?_
  exact Nat.le_trans (Nat.mul_le_mul ha hb) (by decide)
theorem cr_lcm {X : Cx} : CallR X (.builtin "math.lcm") rLcm := by
  intro pins s σ H vs us Q I r h
  obtain ⟨a, b, rfl, ha, hb, q⟩ := h
  obtain ⟨t, u, rfl⟩ := Vals.int2 r
  have e : (Nat.lcm 1 ((a : Nat) : Int).natAbs).lcm ((b : Nat) : Int).natAbs = Nat.lcm a b := by
    rw [Nat.lcm_one_left]
    rfl
  have l := lcm_le a b ha hb
  refine PySem.W.mg_lcm_v (c := ((Nat.lcm a b : Nat) : Int)) (by show a < 2 ^ 64; omega) (by show b < 2 ^ 64; omega) (by rw [e]) ?_ ⟨.int _, H, I.tok _, ⟨_, rfl⟩, q⟩
  have h2 : ((Nat.lcm a b : Nat) : Int).natAbs.log2 ≤ 20 := PySem.W.mg_log (by show Nat.lcm a b < 2 ^ 21; omega)
  exact Nat.lt_of_le_of_lt h2 (by decide)
def minI (k : Int) : List Int → Int
  | [] => k
  | n :: ns => ns.foldl min n
def rMinK (K : PySem.W.Frag) : List V → List V → Hp → VK → Prop := fun vs zs H Q => ∃ (a : Addr) (ns : List Int) (k : Int), vs = [.ref a] ∧ zs = [.int k] ∧ SqL K H a (ns.map V.int) ∧ Q (.int (minI k ns)) H
theorem call_minK {X : Cx} (hd : X.A.handled = none) (hu : X.A.units + 64 < cLine) : CallRK X (.builtin "min") [("default" : Str)] (rMinK X.K) := by
  intro pins s σ H xs zs us ws Q I rx rz h
  obtain ⟨a, ns, k, rfl, rfl, hS, q⟩ := h
  obtain ⟨u, rfl, ru⟩ := vals1 rx
  obtain ⟨uw, rfl, rw2⟩ := vals1 rz
  cases ru
  obtain ⟨tk0, rfl⟩ := rw2
  obtain ⟨its, rv, pl, hz⟩ := I.list hS
  obtain ⟨as, ra⟩ := ints_reads (h := s.heap) rv
  refine PySem.W.min_list_default (xs := ns.map PyData.int) (d := .int k tk0) hd pl.isList (by exact ra) (ints_alike ns) (by have := ints_depth ns; omega) (fun e h' tk hk => ?_) (fun y ys i v h' tk bs e hv hr hk => ?_)
  · cases ns with
    | nil => exact ⟨.int k, H, I.kept (t' := tk) hk, ⟨_, rfl⟩, q⟩
    | cons n l => cases e
  · cases ns with
    | nil => cases e
    | cons n l =>
      have e1 : y = .int n := (List.cons.inj e).1.symm
      have e2 : ys = l.map PyData.int := (List.cons.inj e).2.symm
      subst e1
      subst e2
      rw [PySem.W.minD_ints] at hr
      cases hr
      exact ⟨.int _, H, I.kept (t' := tk) hk, ⟨_, rfl⟩, q⟩
end Gr

set_option Elab.async false
set_option maxRecDepth 100000
set_option maxHeartbeats 4000000
set_option linter.all false
/-! Ours: a text times a number. -/
namespace Gr
open PySem PySem.Spec PyProof.Rows L2 GxR
def mulS (z : Str) (n : Int) : Str := ⟨(List.replicate n.toNat z.cps).foldl (· ++ ·) #[]⟩
theorem fold_app (c : Array Nat) : ∀ (n : Nat) (a : Array Nat), ((List.replicate n c).foldl (· ++ ·) a).toList = a.toList ++ (List.replicate n c.toList).flatten
  | 0, a => by simp
  | n + 1, a => by
    rw [List.replicate_succ, List.foldl_cons, fold_app c n, List.replicate_succ, List.flatten_cons, Array.toList_append, List.append_assoc]
theorem mulS_list (z : Str) (n : Int) : (mulS z n).cps.toList = (List.replicate n.toNat z.cps.toList).flatten := by
  show ((List.replicate n.toNat z.cps).foldl (· ++ ·) #[]).toList = _
  rw [fold_app]
  rfl
theorem mulS_len (z : Str) (n : Int) : (mulS z n).length = n.toNat * z.length := by
  show (mulS z n).cps.toList.length = _
  rw [mulS_list]
  generalize n.toNat = m
  induction m with
  | zero => rw [Nat.zero_mul]; rfl
  | succ m ih => rw [List.replicate_succ, List.flatten_cons, List.length_append, ih, Nat.succ_mul, Nat.add_comm]; rfl
def rMulS : R2 := fun x y H Q => ∃ (z : Str) (n : Int), x = .str z ∧ y = .int n ∧ 2 ≤ n ∧ n ≤ 1000 ∧ 0 < z.length ∧ z.length ≤ 1000 ∧ Q (.str (mulS z n)) H
theorem op_mulS {X : Cx} : OpR X (binaryOp .Mult) rMulS := by
  intro pins s σ H x y v u Q I rx ry h
  obtain ⟨z, n, rfl, rfl, n2, nk, z0, z1, q⟩ := h
  obtain ⟨t, rfl⟩ := rx
  obtain ⟨t', rfl⟩ := ry
  have c1 : ¬ n < 1 := by omega
  have c2 : (n == 1 || z.length == 0) = false := by
    rw [Bool.or_eq_false_iff, beq_eq_false_iff_ne, beq_eq_false_iff_ne]
    omega
  have lm : z.length * n.toNat ≤ 1000000 := Nat.le_trans (Nat.mul_le_mul z1 (show n.toNat ≤ 1000 by omega)) (by decide)
  refine PySem.P.mul_str ?_ (fun _ _ => ?_) (fun _ _ => ?_) ?_
  · rw [decide_eq_false (by omega), decide_eq_false (by omega)]
    rfl
  · have e : ((z.length : Nat) : Int) * n = ((z.length * n.toNat : Nat) : Int) := by
      rw [Int.natCast_mul, Int.toNat_of_nonneg (by omega)]
    have : ((z.length : Nat) : Int) ≤ (2 ^ 63 - 1 : Int) / n := Int.le_ediv_of_mul_le (by omega) (by rw [e]; omega)
    omega
  · have mz : 1000000 ≤ sizeLine := by decide
    exact decide_eq_false (by omega)
  · rw [if_neg c1, if_neg (by rw [c2]; decide)]
    refine ⟨?_, .str _, H, I.tok _, ⟨_, rfl⟩, q⟩
    have mz : 1000000 ≤ sizeLine := by decide
    have := mulS_len z n
    show (mulS z n).length ≤ sizeLine
    rw [this, Nat.mul_comm]
    omega
end Gr

set_option Elab.async false
set_option maxRecDepth 100000
set_option maxHeartbeats 4000000
set_option linter.all false
/-! Ours: fine data: small ints, plain texts; its weight bounds its repr. -/
namespace Gr
open PySem PySem.Spec PyProof.Rows L2 GxR
mutual
/-- ints up to b, signs below 256, dicts empty -/
def fineD (b : Nat) : PyData → Bool
  | .none => true
  | .bool _ => true
  | .int i => decide (i.natAbs ≤ b)
  | .str z => z.cps.toList.all fun c => decide (c < 256)
  | .list l => fineAll b l
  | .tuple l => fineAll b l
  | .dict l => l.isEmpty
def fineAll (b : Nat) : List PyData → Bool
  | [] => true
  | d :: l => fineD b d && fineAll b l
end
mutual
def wtD : PyData → Nat
  | .none => 1
  | .bool _ => 1
  | .int _ => 1
  | .str z => z.length + 1
  | .list l => wtAll l + 1
  | .tuple l => wtAll l + 1
  | .dict _ => 1
def wtAll : List PyData → Nat
  | [] => 0
  | d :: l => wtD d + wtAll l
end
theorem fineAll_iff {b : Nat} : ∀ {l : List PyData}, fineAll b l = true ↔ ∀ d ∈ l, fineD b d = true
  | [] => by simp [fineAll]
  | d :: l => by simp [fineAll, fineAll_iff (l := l)]
theorem wt_pos : ∀ d : PyData, 1 ≤ wtD d
  | .none => by simp [wtD]
  | .bool _ => by simp [wtD]
  | .int _ => by simp [wtD]
  | .str _ => by simp [wtD]
  | .list _ => by simp [wtD]
  | .tuple _ => by simp [wtD]
  | .dict _ => by simp [wtD]
theorem wtAll_app (l m : List PyData) : wtAll (l ++ m) = wtAll l + wtAll m := by
  induction l with
  | nil => simp [wtAll]
  | cons d l ih => simp [wtAll, ih]; omega
theorem wtAll_len (l : List PyData) : l.length ≤ wtAll l := by
  induction l with
  | nil => simp [wtAll]
  | cons d l ih =>
    have := wt_pos d
    simp [wtAll]; omega
theorem wt_mem {l : List PyData} {d : PyData} (h : d ∈ l) : wtD d ≤ wtAll l := by
  induction l with
  | nil => cases h
  | cons e l ih =>
    simp only [wtAll]
    rcases List.mem_cons.mp h with q | q
    · rw [q]; omega
    · have := ih q; omega
theorem wtAll_take (l : List PyData) (n : Nat) : wtAll (l.take n) + wtAll (l.drop n) = wtAll l := by
  rw [← wtAll_app, List.take_append_drop]
theorem fine_str {b : Nat} {z : Str} : fineD b (.str z) = true ↔ ∀ c ∈ z.cps.toList, c < 256 := by
  unfold fineD
  rw [List.all_eq_true]
  exact ⟨fun h c hc => of_decide_eq_true (h c hc), fun h c hc => decide_eq_true (h c hc)⟩
mutual
theorem fine_shown : ∀ {d : PyData}, fineD (10 ^ 40) d = true → d.showable = true ∧ d.shown.length + 10 ≤ 60 * wtD d
  | .none, _ => ⟨rfl, by decide +kernel⟩
  | .bool b, _ => ⟨rfl, by cases b <;> decide +kernel⟩
  | .int i, h => by
    have h : i.natAbs ≤ 10 ^ 40 := by simpa [fineD] using h
    have h2 : i.natAbs.log2 < 1920 := by
      by_cases z : i.natAbs = 0
      · rw [z]; decide
      · rw [Nat.log2_lt z]
        exact Nat.lt_of_le_of_lt h (by decide +kernel)
    refine ⟨by simp [PyData.showable, h2], ?_⟩
    rw [PyData.shown_int]
    have e : (Str.ofString (toString i)).length = (toString i).length := PySem.ofString_length _
    rw [show (PySem.Str.ofString (toString i)).length = _ from e]
    have := int_text_length_le10 (a := i) (k := 41) (by decide) (Nat.lt_of_le_of_lt h (by decide +kernel))
    simp only [wtD]
    omega
  | .str z, h => by
    have h : ∀ c ∈ z.cps.toList, c < 256 := fine_str.mp h
    refine ⟨by simp [PyData.showable], ?_⟩
    rw [PyData.shown_str]
    have := StrLaws.reprText_len z fun c hc => Nat.lt_trans (h c hc) (by decide +kernel)
    simp only [wtD]
    omega
  | .list l, h => by
    have h : fineAll (10 ^ 40) l = true := by simpa [fineD] using h
    obtain ⟨a, b⟩ := fine_shownAll h
    refine ⟨by simp [PyData.showable, a], ?_⟩
    have := shown_lst_le l
    simp only [wtD]
    omega
  | .tuple l, h => by
    have h : fineAll (10 ^ 40) l = true := by simpa [fineD] using h
    obtain ⟨a, b⟩ := fine_shownAll h
    refine ⟨by simp [PyData.showable, a], ?_⟩
    have := shown_tup_le l
    simp only [wtD]
    omega
  | .dict [], h => ⟨by simp [PyData.showable, PyData.showableKv], by decide +kernel⟩
  | .dict (_ :: _), h => by cases h
theorem fine_shownAll : ∀ {l : List PyData}, fineAll (10 ^ 40) l = true → PyData.showableAll l = true ∧ piled (PyData.shownAll l) ≤ 60 * wtAll l
  | [], _ => ⟨by simp [PyData.showableAll], by simp [PyData.shownAll, piled_nil]⟩
  | d :: l, h => by
    have h : fineD (10 ^ 40) d = true ∧ fineAll (10 ^ 40) l = true := by simpa [fineAll] using h
    obtain ⟨a1, b1⟩ := fine_shown h.1
    obtain ⟨a2, b2⟩ := fine_shownAll h.2
    refine ⟨by simp [PyData.showableAll, a1, a2], ?_⟩
    have := wt_pos d
    simp only [PyData.shownAll, piled_cons, wtAll]
    omega
end
/-- fine data of weight up to n, of depth up to k -/
def Fine (b n k : Nat) (d : PyData) : Prop := fineD b d = true ∧ wtD d ≤ n ∧ d.depth ≤ k
mutual
theorem fine_mono {a b : Nat} (h : a ≤ b) : ∀ {d : PyData}, fineD a d = true → fineD b d = true
  | .none, _ => by simp [fineD]
  | .bool _, _ => by simp [fineD]
  | .int i, e => by simp only [fineD, decide_eq_true_eq] at e ⊢; omega
  | .str z, e => by simpa only [fineD] using e
  | .list l, e => by simp only [fineD] at e ⊢; exact fineAll_mono h e
  | .tuple l, e => by simp only [fineD] at e ⊢; exact fineAll_mono h e
  | .dict l, e => by simpa only [fineD] using e
theorem fineAll_mono {a b : Nat} (h : a ≤ b) : ∀ {l : List PyData}, fineAll a l = true → fineAll b l = true
  | [], _ => by simp [fineAll]
  | d :: l, e => by
    simp only [fineAll, Bool.and_eq_true] at e ⊢
    exact ⟨fine_mono h e.1, fineAll_mono h e.2⟩
end
theorem Fine.facts {b n k : Nat} {d : PyData} (h : Fine b n k d) (hb : b ≤ 10 ^ 40) (hk : k ≤ 60) (hn : n ≤ 20000) : d.showable = true ∧ d.depth ≤ 60 ∧ d.shown.length ≤ sizeLine := by
  obtain ⟨a, c⟩ := fine_shown (fine_mono hb h.1)
  have mz : 1200000 ≤ sizeLine := by decide
  have := h.2.1
  have := h.2.2
  exact ⟨a, by omega, by omega⟩
theorem fine_tup {b n k : Nat} {ds : List PyData} (h : ∀ d ∈ ds, fineD b d = true ∧ d.depth ≤ k) (w : wtAll ds + 1 ≤ n) : Fine b n (k + 1) (.tuple ds) := by
  refine ⟨by simp only [fineD]; exact fineAll_iff.mpr fun d hd => (h d hd).1, by simp only [wtD]; exact w, ?_⟩
  have : PyData.depthAll ds ≤ k := by
    clear w
    induction ds with
    | nil => simp [PyData.depthAll]
    | cons d l ih =>
      have a := (h d List.mem_cons_self).2
      have q := ih fun x hx => h x (List.mem_cons_of_mem _ hx)
      simp only [PyData.depthAll]
      omega
  simp only [PyData.depth]
  omega
theorem fine_lst {b n k : Nat} {ds : List PyData} (h : ∀ d ∈ ds, fineD b d = true ∧ d.depth ≤ k) (w : wtAll ds + 1 ≤ n) : Fine b n (k + 1) (.list ds) := by
  obtain ⟨a, c, d⟩ := fine_tup h w
  refine ⟨by simp only [fineD] at a ⊢; exact a, by simp only [wtD] at c ⊢; exact c, by simp only [PyData.depth] at d ⊢; exact d⟩
theorem depth_mem {ds : List PyData} {d : PyData} (h : d ∈ ds) : d.depth ≤ PyData.depthAll ds := by
  induction ds with
  | nil => cases h
  | cons e l ih =>
    simp only [PyData.depthAll]
    rcases List.mem_cons.mp h with q | q
    · rw [q]; omega
    · have := ih q; omega
theorem Fine.mem {b n k : Nat} {ds : List PyData} (h : Fine b n k (.tuple ds)) {d : PyData} (hd : d ∈ ds) : fineD b d = true ∧ d.depth + 1 ≤ k ∧ wtD d + 1 ≤ n := by
  obtain ⟨a, c, e⟩ := h
  have := depth_mem hd
  have := wt_mem hd
  simp only [PyData.depth] at e
  simp only [wtD] at c
  simp only [fineD] at a
  exact ⟨fineAll_iff.mp a d hd, by omega, by omega⟩
end Gr

set_option Elab.async false
set_option maxRecDepth 100000
set_option maxHeartbeats 4000000
set_option linter.all false
/-! Ours: what a file answers is small. -/
namespace KP
open PySem PySem.Spec PyProof.Rows L2 Gr GxR PM
def answersD (gs : List Grp) (c r : Str) : List PyData :=
  [natD (groupI gs c), .tuple ((rowsOf gs c).map rowP), .tuple [.tuple ((limOf gs c).map prD), .tuple ((hrsOf gs c).map .int)], .bool (letB (rowsOf gs c) r), .tuple [natD (groupI gs c), natD (decI (rowsOf gs c) r)]]
theorem wtAll_le {m : Nat} : ∀ {l : List PyData}, (∀ d ∈ l, wtD d ≤ m) → wtAll l ≤ l.length * m
  | [], _ => Nat.zero_le _
  | d :: l, h => by
    have h1 := h d List.mem_cons_self
    have h2 := wtAll_le (l := l) fun e he => h e (List.mem_cons_of_mem _ he)
    show wtD d + wtAll l ≤ (l.length + 1) * m
    rw [Nat.succ_mul]
    omega
theorem pat_lt {z : Str} (h : isPat z = true) : ∀ c ∈ z.cps.toList, c < 256 := by
  intro c hc
  have hs : ∀ d ∈ SG, d < 256 := by decide +kernel
  unfold isPat at h
  rw [Bool.and_eq_true, Bool.and_eq_true] at h
  have h2 := h.2
  rw [Bool.and_eq_true] at h2
  have ha := h2.2
  unfold innerOf at ha
  split at ha
  · rename_i q
    have hl : z.cps.toList.getLast? = some 36 := beq_iff_eq.mp q
    have e : z.cps.toList = z.cps.toList.dropLast ++ [36] := by
      obtain ⟨l, hl2⟩ := List.getLast?_eq_some_iff.mp hl
      rw [hl2]
      simp
    rw [e] at hc
    rcases List.mem_append.mp hc with q2 | q2
    · have := List.all_eq_true.mp ha c q2
      rw [Bool.or_eq_true, beq_iff_eq, decide_eq_true_eq] at this
      rcases this with q3 | q3
      · omega
      · exact hs c q3
    · rw [List.mem_singleton.mp q2]
      decide
  · have := List.all_eq_true.mp ha c hc
    rw [Bool.or_eq_true, beq_iff_eq, decide_eq_true_eq] at this
    rcases this with q3 | q3
    · omega
    · exact hs c q3
theorem word_lt {z : Str} (h : wordB z = true) : (∀ c ∈ z.cps.toList, c < 256) ∧ z.length = 3 := by
  unfold wordB at h
  rw [Bool.or_eq_true, beq_iff_eq, beq_iff_eq] at h
  rcases h with rfl | rfl <;> exact ⟨by decide +kernel, by decide +kernel⟩
theorem limOf_ok {gs : List Grp} (R : FileR gs) (c : Str) : Lim (limOf gs c) := by
  unfold limOf
  cases h : groupI gs c with
  | none => exact ⟨Nat.zero_le _, fun _ h => (nomatch h)⟩
  | some i =>
    have hi := groupI_lt h
    show Lim (((gs[i]?).map Grp.lim).getD [])
    rw [List.getElem?_eq_getElem hi]
    exact (R.grp _ (List.getElem_mem hi)).lim
theorem hrsOf_ok {gs : List Grp} (R : FileR gs) (c : Str) : (hrsOf gs c).length ≤ 12 ∧ ∀ h ∈ hrsOf gs c, 0 ≤ h ∧ h ≤ 1 := by
  unfold hrsOf
  cases h : groupI gs c with
  | none => exact (show ([1] : List Int).length ≤ 12 ∧ ∀ h ∈ ([1] : List Int), 0 ≤ h ∧ h ≤ 1 from ⟨by decide, by decide⟩)
  | some i =>
    have hi := groupI_lt h
    show (((gs[i]?).map Grp.hrs).getD []).length ≤ 12 ∧ ∀ h ∈ (((gs[i]?).map Grp.hrs).getD []), 0 ≤ h ∧ h ≤ 1
    rw [List.getElem?_eq_getElem hi]
    have := (R.grp _ (List.getElem_mem hi)).hrs
    exact ⟨this.2.1, this.2.2.1⟩
/-- fine, of weight w at most, of depth k at most -/
def FW (w k : Nat) (d : PyData) : Prop := fineD 100 d = true ∧ wtD d ≤ w ∧ d.depth ≤ k
theorem fw_tup {w k n : Nat} {l : List PyData} (h : ∀ d ∈ l, FW w k d) (hn : l.length ≤ n) : FW (n * w + 1) (k + 1) (.tuple l) := by
  have hw := wtAll_le (m := w) fun d hd => (h d hd).2.1
  have h2 : l.length * w ≤ n * w := Nat.mul_le_mul_right _ hn
  obtain ⟨a, b, c⟩ := fine_tup (b := 100) (n := n * w + 1) (k := k) (ds := l) (fun d hd => ⟨(h d hd).1, (h d hd).2.2⟩) (by omega)
  exact ⟨a, b, c⟩
theorem fw_int {i : Int} (h : i.natAbs ≤ 100) : FW 1 1 (.int i) := ⟨decide_eq_true h, Nat.le_refl _, by simp [PyData.depth]⟩
theorem fw_str {z : Str} {n : Nat} (h : ∀ c ∈ z.cps.toList, c < 256) (hn : z.length ≤ n) : FW (n + 1) 1 (.str z) := ⟨fine_str.mpr h, by show z.length + 1 ≤ n + 1; omega, by simp [PyData.depth]⟩
theorem FW.up {w k w' k' : Nat} {d : PyData} (h : FW w k d) (a : w ≤ w') (b : k ≤ k') : FW w' k' d := ⟨h.1, Nat.le_trans h.2.1 a, Nat.le_trans h.2.2 b⟩
theorem fw_rows {rows : List (Str × Str)} (R : RowsR rows) : FW 200 3 (.tuple (rows.map rowP)) := by
  refine (fw_tup (w := 27) (k := 2) (n := 6) (fun d hd => ?_) (by rw [List.length_map]; exact R.len)).up (by decide) (by decide)
  obtain ⟨r, hr, rfl⟩ := List.mem_map.mp hd
  have hw := word_lt (R.word r hr)
  refine (fw_tup (w := 13) (k := 1) (n := 2) (l := [.str r.1, .str r.2]) (fun d hd => ?_) (by show 2 ≤ 2; decide)).up (by decide) (by decide)
  simp only [List.mem_cons, List.not_mem_nil, or_false] at hd
  rcases hd with rfl | rfl
  · exact (fw_str (n := 3) hw.1 (by omega)).up (by decide) (by decide)
  · exact fw_str (pat_lt (R.pat r hr)) (isPat_len (R.pat r hr)).2
theorem fw_nat {o : Option Nat} (h : ∀ i, o = some i → i < 10) : FW 1 1 (natD o) := by
  cases o with
  | none => exact ⟨rfl, Nat.le_refl _, by simp [natD, PyData.depth]⟩
  | some i => exact fw_int (by have := h i rfl; omega)
theorem fw_lim {ps : List (Int × Int)} (h : Lim ps) : FW 20 3 (.tuple (ps.map prD)) := by
  refine (fw_tup (w := 3) (k := 2) (n := 4) (fun d hd => ?_) (by rw [List.length_map]; exact h.1)).up (by decide) (by decide)
  obtain ⟨q, hq, rfl⟩ := List.mem_map.mp hd
  have := h.2 q hq
  refine fw_tup (w := 1) (k := 1) (n := 2) (l := [.int q.1, .int q.2]) (fun d hd => ?_) (by show 2 ≤ 2; decide)
  simp only [List.mem_cons, List.not_mem_nil, or_false] at hd
  rcases hd with rfl | rfl <;> exact fw_int (by omega)
theorem fw_hrs {hs : List Int} (h : hs.length ≤ 12 ∧ ∀ h ∈ hs, 0 ≤ h ∧ h ≤ 1) : FW 20 2 (.tuple (hs.map .int)) := by
  refine (fw_tup (w := 1) (k := 1) (n := 12) (fun d hd => ?_) (by rw [List.length_map]; exact h.1)).up (by decide) (by decide)
  obtain ⟨q, hq, rfl⟩ := List.mem_map.mp hd
  have := h.2 q hq
  exact fw_int (by omega)
theorem fw_rules {gs : List Grp} (R : FileR gs) (c : Str) : FW 41 4 (.tuple [.tuple ((limOf gs c).map prD), .tuple ((hrsOf gs c).map .int)]) := by
  refine fw_tup (w := 20) (k := 3) (n := 2) (fun d hd => ?_) (by show 2 ≤ 2; decide)
  simp only [List.mem_cons, List.not_mem_nil, or_false] at hd
  rcases hd with rfl | rfl
  · exact fw_lim (limOf_ok R c)
  · exact (fw_hrs (hrsOf_ok R c)).up (by decide) (by decide)
theorem dec_ten {rows : List (Str × Str)} (R : RowsR rows) (r : Str) : ∀ i, decI rows r = some i → i < 10 := fun i h => by
  have hi : i < rows.length := by
    unfold decI at h
    exact ord_lt (List.mem_of_find?_eq_some h)
  have := R.len
  omega
theorem grp_ten {gs : List Grp} (R : FileR gs) (c : Str) : ∀ i, groupI gs c = some i → i < 10 := fun i h => by
  have := groupI_lt h
  have := R.len
  omega
theorem facts_of {w k n : Nat} {l : List PyData} (h : ∀ d ∈ l, FW w k d) (hn : l.length ≤ n) (h1 : n * w + 1 ≤ 20000) (h2 : k + 1 ≤ 60) : (PyData.list l).showable = true ∧ (PyData.list l).depth ≤ 60 ∧ (PyData.list l).shown.length ≤ sizeLine := by
  have hw := wtAll_le (m := w) fun d hd => (h d hd).2.1
  have h3 : l.length * w ≤ n * w := Nat.mul_le_mul_right _ hn
  exact (fine_lst (b := 100) (n := n * w + 1) (k := k) (ds := l) (fun d hd => ⟨(h d hd).1, (h d hd).2.2⟩) (by omega)).facts (by decide) h2 h1
theorem answers_facts {gs : List Grp} (R : FileR gs) (c r : Str) : (PyData.list (answersD gs c r)).showable = true ∧ (PyData.list (answersD gs c r)).depth ≤ 60 ∧ (PyData.list (answersD gs c r)).shown.length ≤ sizeLine := by
  refine facts_of (w := 200) (k := 4) (n := 5) (fun d hd => ?_) (by show 5 ≤ 5; decide) (by decide) (by decide)
  have n1 := fw_nat (grp_ten R c)
  have n2 := fw_nat (dec_ten (rowsOf_ok R c) r)
  unfold answersD at hd
  simp only [List.mem_cons, List.not_mem_nil, or_false] at hd
  rcases hd with rfl | rfl | rfl | rfl | rfl
  · exact n1.up (by decide) (by decide)
  · exact (fw_rows (rowsOf_ok R c)).up (by decide) (by decide)
  · exact (fw_rules R c).up (by decide) (by decide)
  · exact ⟨rfl, by show 1 ≤ 200; decide, by simp [PyData.depth]⟩
  · refine (fw_tup (w := 1) (k := 1) (n := 2) (fun d hd => ?_) (by show 2 ≤ 2; decide)).up (by decide) (by decide)
    simp only [List.mem_cons, List.not_mem_nil, or_false] at hd
    rcases hd with rfl | rfl
    · exact n1
    · exact n2
/-- is_let and rules_of by name -/
theorem named_facts {gs : List Grp} (R : FileR gs) (c r : Str) : (PyData.list [.bool (letB (rowsOf gs c) r), .tuple [.tuple ((limOf gs c).map prD), .tuple ((hrsOf gs c).map .int)]]).showable = true ∧ (PyData.list [.bool (letB (rowsOf gs c) r), .tuple [.tuple ((limOf gs c).map prD), .tuple ((hrsOf gs c).map .int)]]).depth ≤ 60 ∧ (PyData.list [.bool (letB (rowsOf gs c) r), .tuple [.tuple ((limOf gs c).map prD), .tuple ((hrsOf gs c).map .int)]]).shown.length ≤ sizeLine := by
  refine facts_of (w := 41) (k := 4) (n := 2) (fun d hd => ?_) (by show 2 ≤ 2; decide) (by decide) (by decide)
  simp only [List.mem_cons, List.not_mem_nil, or_false] at hd
  rcases hd with rfl | rfl
  · exact ⟨rfl, by show 1 ≤ 41; decide, by simp [PyData.depth]⟩
  · exact fw_rules R c
end KP

set_option Elab.async false
set_option maxRecDepth 100000
set_option maxHeartbeats 4000000
set_option linter.all false
/-! Ours: _law_one_right. -/
namespace KP
open PySem PySem.Spec PyProof.Rows L2 Gr GxR PM
def rev3 : {α : Type} → List α → List α → List α
  | _, [], [a, b, c] => [c, b, a]
  | _, _, _ => []
theorem kb_islet {K : PySem.W.Frag} {mg : Str → Option Value} (T : D K mg) : KBinds K T.d_is_let ["file", "crawler", "path"] ["path", "crawler", "file"] rev3 rev3 := by
  refine ⟨fun s us ws _ hl => ?_, fun {vs us zs ws} h1 h2 => ?_⟩
  · obtain ⟨oc, od, kV, doc, pm, an, cdv, ct, osl, e, lk, hcd⟩ := T.U_is_let.ex
    match us, ws, hl with
    | [], [a, b, c], _ =>
      rw [e]
      exact .of_eq rfl
  · cases h1 with
    | nil =>
      match zs, ws, h2 with
      | [], _, .nil => exact .nil
      | [_], _, .cons _ .nil => exact .nil
      | [_, _], _, .cons _ (.cons _ .nil) => exact .nil
      | [_, _, _], _, .cons a (.cons b (.cons c .nil)) => exact .cons c (.cons b (.cons a .nil))
      | _ :: _ :: _ :: _ :: _, _, .cons _ (.cons _ (.cons _ (.cons _ _))) => exact .nil
    | cons _ _ => exact .nil
def fwd2 : {α : Type} → List α → List α → List α
  | _, [], [a, b] => [a, b]
  | _, _, _ => []
theorem kb_rules {K : PySem.W.Frag} {mg : Str → Option Value} (T : D K mg) : KBinds K T.d_rules_of ["file", "crawler"] ["file", "crawler"] fwd2 fwd2 := by
  refine ⟨fun s us ws _ hl => ?_, fun {vs us zs ws} h1 h2 => ?_⟩
  · obtain ⟨oc, od, kV, doc, pm, an, cdv, ct, osl, e, lk, hcd⟩ := T.U_rules_of.ex
    match us, ws, hl with
    | [], [a, b], _ =>
      rw [e]
      exact .of_eq rfl
  · cases h1 with
    | nil =>
      match zs, ws, h2 with
      | [], _, .nil => exact .nil
      | [_], _, .cons _ .nil => exact .nil
      | [_, _], _, .cons a (.cons b .nil) => exact .cons a (.cons b .nil)
      | _ :: _ :: _ :: _, _, .cons _ (.cons _ (.cons _ _)) => exact .nil
    | cons _ _ => exact .nil
theorem groupL_opt {gs : List Grp} (R : FileR gs) (c : Str) : optN (groupL gs c) = optN (groupI gs c) := by rw [group_is R c]
theorem U3.putL {K : PySem.W.Frag} {mg : Str → Option Value} {T : D K mg} {H H1 : Hp} {a : Addr} {xs ys : List V} (u : U3 T H H1) (n : H a = none) (e : H1 a = some (.lst xs)) : U3 T H (upd H1 a (.lst ys)) := by
  have tb : ∀ p, TabG H1 p → TabG (upd H1 a (.lst ys)) p := fun p ⟨ps, e1, t⟩ => ⟨ps, (upd_ne fun z => by rw [z, e] at e1; cases e1).trans e1, t⟩
  obtain ⟨⟨⟨t1, t2⟩, ps, e1, t, c⟩, st, tab⟩ := u
  refine ⟨⟨⟨tb _ t1, tb _ t2⟩, ps, (upd_ne fun z => by rw [z, e] at e1; cases e1).trans e1, t, fun pos cv hc => ?_⟩, fun x o q m => ?_, fun p hp => tb p (tab p hp)⟩
  · obtain ⟨c', q1, q2⟩ := c pos cv hc
    refine ⟨c', q1, (upd_ne fun z => ?_).trans q2⟩
    rw [z, e] at q2
    unfold LamX.CodeO at q2
    cases q2
  · rw [upd_ne fun z => by rw [z, n] at q; cases q]
    exact st x o q m
theorem nat_tup (o : Option Nat) : tupD (natD o) = true := by cases o <;> rfl
def spOneRF {K : PySem.W.Frag} {mg : Str → Option Value} (T : D K mg) : Sp := fun vs H Q _ => ∃ (v : V) (gs : List Grp) (c r : Str), vs = [v, .str c, .str r] ∧ Od H v (fileD gs) ∧ FileR gs ∧ isName c = true ∧ isPath r = true ∧ r.length ≤ 1000 ∧ T8 T H ∧ ∀ H', U3 T H H' → Q (.bl true) H'
section
variable {P : Program} {w : World} {K : PySem.W.Frag} {mg : Str → Option Value} {base : Heap}
theorem sc_onerf : FnScope ["_law_groups", "_law_who", "_law_route", "_law_at", "_law_listed", "_law_rule", "_law_told", "_law_due", "_law_named"] ["_law_groups", "_law_who", "_law_route"] (defScope s_l_one_right) := ⟨rfl, rfl, rfl, by decide +kernel, rfl, by decide +kernel, by decide +kernel⟩
theorem ok_onerf (T : D K mg) (TB : Tabs base T) (TR : TabR base T) (TF : TabF base T) (hM : SysM K) : FnQ P w K mg base CX0 12 T.f_l_one_right T.d_l_one_right ["_law_groups", "_law_who", "_law_route"] (spOneRF T) := by
  refine funQ T.U_l_one_right sc_onerf (fun vs H Q E h => ?_) (fun cdv A outer s H vs Q E hgu hr h => ?_)
  · obtain ⟨v, gs, c, r, rfl, _⟩ := h
    rfl
  · obtain ⟨v, gs, c, r, rfl, ov, R, hc, hp, hr1, hT, k⟩ := h
    have nd := sc_onerf.nd
    have hu64 : (A.deeper (envOfC "_law_one_right" (defScope s_l_one_right) s.heap.objs.size T.f_l_one_right cdv)).units + 64 < cLine := hr.units
    have mz : 5000 ≤ sizeLine := by decide
    refine ⟨_, pss_cons (ps_set (i := 3) nd rfl (.inl rfl) (pe_call (ok_lgroup T) (hr.mono (by decide)) rfl T.g_l_group T.U_l_group.kp T.b_l_group .nil pass0 (pa_cons (pv 0) (pa_cons (pv 1) pa_nil))))
      (pss_cons (ps_set (i := 4) nd rfl (.inl rfl) (pe_ifExp (pt_cmpR op_isN (pv 3) pe_non (nomark _)) (pe_tup pa_nil) (pe_ix ix_tup (pe_ix ix_tup (pv 0) (pv 3) (fun _ _ => rfl)) pe_int (fun _ _ => rfl))))
      (pss_cons (ps_set (i := 5) nd rfl (.inl rfl) (pe_ifExp (pt_cmpR op_isN (pv 3) pe_non (nomark _)) (pe_tup (pa_cons (pe_tup pa_nil) (pa_cons (pe_tup (pa_cons pe_int pa_nil)) pa_nil))) (pe_tup (pa_cons (pe_ix ix_tup (pe_ix ix_tup (pv 0) (pv 3) (fun _ _ => rfl)) pe_int (fun _ _ => rfl)) (pa_cons (pe_ix ix_tup (pe_ix ix_tup (pv 0) (pv 3) (fun _ _ => rfl)) pe_int (fun _ _ => rfl)) pa_nil)))))
      (pss_cons (ps_set (i := 6) nd rfl (.inl rfl) (pe_lst (pa_cons (pe_call (ok_groupof T TB TR TF) (hr.mono (by decide)) rfl T.g_group_of T.U_group_of.kp T.b_group_of .nil pass0 (pa_cons (pv 0) (pa_cons (pv 1) pa_nil))) (pa_cons (pe_call (ok_pathsof T TB TR TF) (hr.mono (by decide)) rfl T.g_paths_of T.U_paths_of.kp T.b_paths_of .nil pass0 (pa_cons (pv 0) (pa_cons (pv 1) pa_nil))) (pa_cons (pe_call (ok_rulesof T TB TR TF) (hr.mono (by decide)) rfl T.g_rules_of T.U_rules_of.kp T.b_rules_of .nil pass0 (pa_cons (pv 0) (pa_cons (pv 1) pa_nil))) (pa_cons (pe_call (ok_islet T TB TR TF) hr rfl T.g_is_let T.U_is_let.kp T.b_is_let .nil pass0 (pa_cons (pv 0) (pa_cons (pv 1) (pa_cons (pv 2) pa_nil)))) pa_nil))))))
      (pss_cons (ps_expr (pe_bm PySem.F.plainAttrs_list PySem.F.slot_list_append PySem.F.type_list_append mt_append (pv 6) (pa_cons (pe_call (ok_reason T TB TR TF) hr rfl T.g_reason T.U_reason.kp T.b_reason .nil pass0 (pa_cons (pv 0) (pa_cons (pv 1) (pa_cons (pv 2) pa_nil)))) pa_nil)))
      (pss_cons (ps_set (i := 7) nd rfl (.inl rfl) (pe_lst (pa_cons (pv 3) (pa_cons (pv 4) (pa_cons (pv 5) (pa_cons (pe_not (pe_call (ok_lbars T) (hr.mono (by decide)) rfl T.g_l_bars T.U_l_bars.kp T.b_l_bars .nil pass0 (pa_cons (pv 4) (pa_cons (pv 2) pa_nil)))) (pa_cons (pe_tup (pa_cons (pv 3) (pa_cons (pe_call (ok_ldec T) (hr.mono (by decide)) rfl T.g_l_decides T.U_l_decides.kp T.b_l_decides .nil pass0 (pa_cons (pv 4) (pa_cons (pv 2) pa_nil))) pa_nil))) pa_nil)))))))
      (pss_cons (ps_set (i := 8) nd rfl (.inl rfl) (pe_lst (pa_cons (pe_callK0 (ok_islet T TB TR TF) hr rfl T.g_is_let T.U_is_let.kp (kb_islet T) pass0 (pk_cons (pv 2) (pk_cons (pv 1) (pk_cons (pv 0) pk_nil)))) (pa_cons (pe_callK0 (ok_rulesof T TB TR TF) (hr.mono (by decide)) rfl T.g_rules_of T.U_rules_of.kp (kb_rules T) pass0 (pk_cons (pv 0) (pk_cons (pv 1) pk_nil))) pa_nil))))
      (pss_one (ps_ret (pe_and (pe_cmpR op_eq (pe_callB (call_reprD hgu hu64 hM) (by rfl) T.repr (by decide +kernel) (pa_cons (pv 6) pa_nil)) (pe_callB (call_reprD hgu hu64 hM) (by rfl) T.repr (by decide +kernel) (pa_cons (pv 7) pa_nil)) (nomark _)) (pe_one (pe_cmpR op_eq (pe_callB (call_reprD hgu hu64 hM) (by rfl) T.repr (by decide +kernel) (pa_cons (pv 8) pa_nil)) (pe_callB (call_reprD hgu hu64 hM) (by rfl) T.repr (by decide +kernel) (pa_cons (pe_lst (pa_cons (pe_ix ix_list (pv 7) pe_int (fun _ _ => rfl)) (pa_cons (pv 5) pa_nil))) pa_nil)) (nomark _)))))))))))), ?_⟩
    have hcl : c.length ≤ 1000 := by have := (isName_len hc).2; omega
    refine ⟨_, rfl, _, rfl, v, gs, c, rfl, ov, R, hcl, fun H1 s1 => gn ?_⟩
    dsimp only
    rw [group_is R c]
    have v1 := U3.same hT.t s1
    refine cut2 (fun σ H' => U3 T H H' ∧ ∃ x y, Od H' x (.tuple ((rowsOf gs c).map rowP)) ∧ Od H' y (.tuple [.tuple ((limOf gs c).map prD), .tuple ((hrsOf gs c).map .int)]) ∧ σ = [some v, some (.str c), some (.str r), some (optN (groupI gs c)), some x, some y, none, none, none]) ?_ ?_
    · intro N hN
      obtain ⟨a, xs, rfl, ea, oa⟩ := od_tup (ov.stay v1.2)
      cases hg : groupI gs c with
      | none =>
        have e0 : rowsOf gs c = [] := by
          unfold rowsOf
          rw [hg]
        have e1 : limOf gs c = [] := by
          unfold limOf
          rw [hg]
        have e2 : hrsOf gs c = [1] := by
          unfold hrsOf
          rw [hg]
        rw [hg, e0, e1, e2] at hN
        refine ⟨_, rfl, rfl, true, rfl, iteT ⟨by show 0 ≤ sizeLine; omega, fun p0 hp0 => gn ?_⟩⟩
        dsimp only
        refine ⟨_, rfl, rfl, true, rfl, iteT ⟨by show 0 ≤ sizeLine; omega, fun p hp => ⟨by show 1 ≤ sizeLine; omega, fun q hq => ⟨by show 2 ≤ sizeLine; omega, fun t ht => gn ?_⟩⟩⟩⟩
        have s0 := same_upd (o := HO.tup []) hp0
        have s2 := same_upd (o := HO.tup []) hp
        have s3 := same_upd (o := HO.tup [V.int 1]) hq
        have s4 := same_upd (o := HO.tup [V.ref p, V.ref q]) ht
        refine hN _ _ ⟨v1.trans (.same v1.1 (s0.trans (s2.trans (s3.trans s4)))), .ref p0, .ref t, Od.same (s2.trans (s3.trans s4)) (.tup upd_same .nil), .tup upd_same (.cons (Od.same (s3.trans s4) (.tup upd_same .nil)) (.cons (Od.same s4 (.tup upd_same (.cons (.int 1) .nil))) .nil)), rfl⟩
      | some i =>
        have hi := groupI_lt hg
        have e0 : rowsOf gs c = gs[i].rows := by
          unfold rowsOf
          rw [hg]
          show ((gs[i]?).map Grp.rows).getD [] = _
          rw [List.getElem?_eq_getElem hi]
          rfl
        have e1 : limOf gs c = gs[i].lim := by
          unfold limOf
          rw [hg]
          show ((gs[i]?).map Grp.lim).getD [] = _
          rw [List.getElem?_eq_getElem hi]
          rfl
        have e2 : hrsOf gs c = gs[i].hrs := by
          unfold hrsOf
          rw [hg]
          show ((gs[i]?).map Grp.hrs).getD [] = _
          rw [List.getElem?_eq_getElem hi]
          rfl
        rw [hg, e0, e1, e2] at hN
        obtain ⟨xr, hxr, oxr⟩ := OdAll.get oa (i := i) (d := grpD gs[i]) (by rw [List.getElem?_map, List.getElem?_eq_getElem hi]; rfl)
        obtain ⟨b, bx, rfl, eb, ob⟩ := od_tup (show Od H1 xr (.tuple [.tuple (gs[i].names.map .str), .tuple (gs[i].rows.map rowP), .tuple (gs[i].lim.map prD), .tuple (gs[i].hrs.map .int)]) from oxr)
        obtain ⟨x1, x2, x3, x4, rfl, o1, o2, o3, o4⟩ := od4 ob
        refine ⟨_, rfl, rfl, false, rfl, iteF ⟨_, rfl, _, rfl, a, _, (i : Nat), _, rfl, rfl, SqT.of ea, atI_nat hxr, b, _, 1, _, rfl, rfl, SqT.of eb, rfl, gn ?_⟩⟩
        dsimp only
        refine ⟨_, rfl, rfl, false, rfl, iteF ⟨_, rfl, _, rfl, a, _, (i : Nat), _, rfl, rfl, SqT.of ea, atI_nat hxr, b, _, 2, _, rfl, rfl, SqT.of eb, rfl, _, rfl, _, rfl, a, _, (i : Nat), _, rfl, rfl, SqT.of ea, atI_nat hxr, b, _, 3, _, rfl, rfl, SqT.of eb, rfl, by show 2 ≤ sizeLine; omega, fun t ht => gn ?_⟩⟩
        have st := same_upd (o := HO.tup [x3, x4]) ht
        exact hN _ _ ⟨v1.trans (.same v1.1 st), x2, .ref t, o2.same st, .tup upd_same (.cons (o3.same st) (.cons (o4.same st) .nil)), rfl⟩
    · rintro σ H2 ⟨v2, x, y, ox, oy, rfl⟩
      have t2 := U3.t8 hT v2
      have gI := grp_ten R c
      refine ⟨_, rfl, _, rfl, v, gs, c, rfl, ov.stay v2.2, R, hc, t2, fun H3 u3 => ?_⟩
      have v3 := v2.trans u3
      refine ⟨_, rfl, _, rfl, v, gs, c, rfl, ov.stay v3.2, R, hc, U3.t8 hT v3, fun x5 H5 u5 o5 => ?_⟩
      have v5 := v3.trans u5
      refine ⟨_, rfl, _, rfl, v, gs, c, rfl, ov.stay v5.2, R, hc, U3.t8 hT v5, fun x6 H6 u6 o6 => ?_⟩
      have v6 := v5.trans u6
      refine ⟨_, rfl, _, rfl, _, rfl, v, gs, c, r, rfl, ov.stay v6.2, R, hc, hp, hr1, U3.t8 hT v6, fun H7 u7 => ?_⟩
      have v7 := v6.trans u7
      refine ⟨by show 4 ≤ sizeLine; omega, fun TL hTL => gn ?_⟩
      dsimp only
      have sTL := same_upd (o := HO.lst [optN (groupI gs c), x5, x6, V.bl (letB (rowsOf gs c) r)]) hTL
      have wA := U3.same v7.1 sTL
      have vA := v7.trans wA
      refine ⟨_, rfl, .inl ⟨rfl, _, SqL.of upd_same⟩, _, rfl, _, rfl, _, rfl, v, gs, c, r, rfl, ov.stay vA.2, R, hc, hp, hr1, U3.t8 hT vA, fun x8 H8 u8 o8 => ?_⟩
      have eT8 := u8.2 _ _ upd_same (fun _ q => nomatch q)
      have w8 := (wA.trans u8).putL (ys := [optN (groupI gs c), x5, x6, V.bl (letB (rowsOf gs c) r)] ++ [x8]) hTL eT8
      have v8 := v7.trans w8
      have o8' := Od.ts (ts_put (o := .lst ([optN (groupI gs c), x5, x6, V.bl (letB (rowsOf gs c) r)] ++ [x8])) eT8) o8 (by show (tupD (natD _) && (tupD (natD _) && true)) = true; rw [nat_tup, nat_tup]; rfl)
      have o5' := o5.stay (u6.2.trans (u7.2.trans w8.2))
      have o6' := o6.stay (u7.2.trans w8.2)
      have st8 := u3.2.trans (u5.2.trans (u6.2.trans (u7.2.trans w8.2)))
      have ox8 := ox.stay st8
      have oy8 := oy.stay st8
      refine ⟨TL, _, x8, rfl, rfl, eT8, by show 4 < sizeLine; omega, ?_⟩
      have eTf : upd H8 TL (.lst ([optN (groupI gs c), x5, x6, V.bl (letB (rowsOf gs c) r)] ++ [x8])) TL = some (.lst [optN (groupI gs c), x5, x6, V.bl (letB (rowsOf gs c) r), x8]) := upd_same
      generalize upd H8 TL (.lst ([optN (groupI gs c), x5, x6, V.bl (letB (rowsOf gs c) r)] ++ [x8])) = Hf at v8 w8 eTf o8' o5' o6' ox8 oy8 ⊢
      clear w8 wA vA u8 o8 eT8 st8 hTL sTL
      dsimp only
      have RR := rowsOf_ok R c
      refine ⟨_, rfl, _, rfl, _, rfl, _, rfl, _, rfl, x, _, r, rfl, ox8, RR, hr1, fun H9 s9 => ?_⟩
      refine ⟨_, rfl, _, rfl, _, rfl, _, rfl, x, _, r, rfl, ox8.same s9, RR, hr1, fun H10 s10 => ?_⟩
      refine ⟨by show 2 ≤ sizeLine; omega, fun tt htt => ⟨by show 5 ≤ sizeLine; omega, fun DL hDL => gn ?_⟩⟩
      dsimp only
      have s11 := same_upd (o := HO.tup [optN (groupI gs c), optN (decI (rowsOf gs c) r)]) htt
      have s12 := same_upd (o := HO.lst [optN (groupI gs c), x, y, V.bl (!barsB (rowsOf gs c) r), V.ref tt]) hDL
      have s9f := s9.trans (s10.trans (s11.trans s12))
      have vD := v8.trans (U3.same v8.1 s9f)
      have eTD := s9f _ _ eTf
      have o5D := o5'.same s9f
      have o6D := o6'.same s9f
      have o8D := o8'.same s9f
      have oxD := ox8.same s9f
      have oyD := oy8.same s9f
      have ott := s12 _ _ (upd_same (H := H10) (a := tt) (o := HO.tup [optN (groupI gs c), optN (decI (rowsOf gs c) r)]))
      have eDL : upd (upd H10 tt (HO.tup [optN (groupI gs c), optN (decI (rowsOf gs c) r)])) DL (HO.lst [optN (groupI gs c), x, y, V.bl (!barsB (rowsOf gs c) r), V.ref tt]) DL = some (.lst [optN (groupI gs c), x, y, V.bl (letB (rowsOf gs c) r), V.ref tt]) := by
        rw [upd_same, bars_let RR r]
      generalize upd (upd H10 tt (HO.tup [optN (groupI gs c), optN (decI (rowsOf gs c) r)])) DL (HO.lst [optN (groupI gs c), x, y, V.bl (!barsB (rowsOf gs c) r), V.ref tt]) = HD at vD eTD o5D o6D o8D oxD oyD ott eDL ⊢
      clear s9f s12 s11 s10 s9 hDL htt o5' o6' o8' ox8 oy8 eTf v8
      refine ⟨_, rfl, _, rfl, _, rfl, v, gs, c, r, rfl, ov.stay vD.2, R, hc, hp, hr1, U3.t8 hT vD, fun HE uE => ?_⟩
      have vE := vD.trans uE
      refine ⟨_, rfl, _, rfl, v, gs, c, rfl, ov.stay vE.2, R, hc, U3.t8 hT vE, fun x12 HF uF o12 => ⟨by show 2 ≤ sizeLine; omega, fun NL hNL => gn ?_⟩⟩
      dsimp only
      have vF := vE.trans uF
      have sN := same_upd (o := HO.lst [V.bl (letB (rowsOf gs c) r), x12]) hNL
      have stN := uE.2.trans (uF.2.trans (Stay.same sN))
      have ku : ∀ {a : Addr} {l : List V}, HD a = some (.lst l) → upd HF NL (.lst [V.bl (letB (rowsOf gs c) r), x12]) a = some (.lst l) := fun e => stN _ _ e (fun _ q => nomatch q)
      have eTN := ku eTD
      have eDN := ku eDL
      have oT := stN _ _ ott (fun _ q => nomatch q)
      have vN := vF.trans (U3.same vF.1 sN)
      have o5N := o5D.stay stN
      have o6N := o6D.stay stN
      have o8N := o8D.stay stN
      have oxN := oxD.stay stN
      have oyN := oyD.stay stN
      have o12N := o12.same sN
      have eNN : upd HF NL (.lst [V.bl (letB (rowsOf gs c) r), x12]) NL = some (.lst [V.bl (letB (rowsOf gs c) r), x12]) := upd_same
      generalize upd HF NL (.lst [V.bl (letB (rowsOf gs c) r), x12]) = HN at eTN eDN oT vN o5N o6N o8N oxN oyN o12N eNN ⊢
      obtain ⟨f1, f2, f3⟩ := answers_facts R c r
      obtain ⟨n1, n2, n3⟩ := named_facts R c r
      have dT : Od HN (.ref TL) (.list (answersD gs c r)) := .lst eTN (.cons (optN_od _) (.cons o5N (.cons o6N (.cons (.bl _) (.cons o8N .nil)))))
      have dD : Od HN (.ref DL) (.list (answersD gs c r)) := .lst eDN (.cons (optN_od _) (.cons oxN (.cons oyN (.cons (.bl _) (.cons (.tup oT (.cons (optN_od _) (.cons (optN_od _) .nil))) .nil)))))
      have dN : Od HN (.ref NL) (.list [.bool (letB (rowsOf gs c) r), .tuple [.tuple ((limOf gs c).map prD), .tuple ((hrsOf gs c).map .int)]]) := .lst eNN (.cons (.bl _) (.cons o12N .nil))
      refine ⟨_, rfl, _, _, rfl, dT.dq, f1, f2, f3, _, rfl, _, _, rfl, dD.dq, f1, f2, f3, rfl, true, congrArg V.bl (decide_eq_true rfl), iteT ?_⟩
      refine ⟨_, rfl, _, _, rfl, dN.dq, n1, n2, n3, _, rfl, DL, _, 3, _, rfl, rfl, SqL.of eDN, rfl, _, rfl, by show 2 ≤ sizeLine; omega, fun LL hLL => ?_⟩
      have sL := same_upd (o := HO.lst [V.bl (letB (rowsOf gs c) r), y]) hLL
      have dL : Od (upd HN LL (.lst [V.bl (letB (rowsOf gs c) r), y])) (.ref LL) (.list [.bool (letB (rowsOf gs c) r), .tuple [.tuple ((limOf gs c).map prD), .tuple ((hrsOf gs c).map .int)]]) := .lst upd_same (.cons (.bl _) (.cons (oyN.same sL) .nil))
      refine ⟨_, _, rfl, dL.dq, n1, n2, n3, rfl, ?_⟩
      have q := k _ (vN.trans (U3.same vN.1 sL))
      rw [decide_eq_true rfl]
      exact q
end
end KP

set_option Elab.async false
set_option maxRecDepth 100000
set_option maxHeartbeats 4000000
set_option linter.all false
/-! Ours: a file turned round says the same. -/
namespace KP
open PySem PySem.Spec PyProof.Rows L2 Gr GxR PM
theorem fileR_nil : FileR [] := ⟨Nat.zero_le _, fun _ h => (nomatch h), .nil⟩
theorem FileR.take {gs : List Grp} (R : FileR gs) (n : Nat) : FileR (gs.take n) := by
  refine ⟨?_, fun g hg => R.grp g (List.mem_of_mem_take hg), ?_⟩
  · have := R.len
    rw [List.length_take]
    omega
  · have h := R.one
    rw [← List.take_append_drop n gs, List.flatMap_append] at h
    exact (List.nodup_append.mp h).1
theorem FileR.turn {gs : List Grp} (R : FileR gs) (n : Nat) : FileR (gs.drop n ++ gs.take n) := by
  refine ⟨?_, fun g hg => ?_, ?_⟩
  · have := R.len
    rw [List.length_append, List.length_drop, List.length_take]
    omega
  · rcases List.mem_append.mp hg with q | q
    · exact R.grp g (List.mem_of_mem_drop q)
    · exact R.grp g (List.mem_of_mem_take q)
  · have h := R.one
    rw [← List.take_append_drop n gs, List.flatMap_append] at h
    rw [List.flatMap_append]
    obtain ⟨h1, h2, h3⟩ := List.nodup_append.mp h
    exact List.nodup_append.mpr ⟨h2, h1, fun a ha b hb e => h3 b hb a ha e.symm⟩
/-- the name z begins the crawler's name c -/
def Good (c z : Str) : Prop := Txt.startswith c (startOf z) = true
/-- what the walk has met -/
structure Met (c : Str) (ns : List (Nat × Str)) (s : Option Nat × Int) : Prop where
  no : s.1 = none → s.2 = -1 ∧ ∀ p ∈ ns, ¬ Good c p.2
  yes : ∀ i, s.1 = some i → ∃ z, (i, z) ∈ ns ∧ Good c z ∧ s.2 = ((startOf z).length : Nat) ∧ ∀ p ∈ ns, Good c p.2 → ((startOf p.2).length : Int) ≤ s.2
theorem Met.step {c z : Str} {i : Nat} {ns : List (Nat × Str)} {s : Option Nat × Int} (m : Met c ns s) : Met c (ns ++ [(i, z)]) (gstep c i s z) := by
  unfold gstep
  by_cases hg : Txt.startswith c (startOf z) = true
  · by_cases hl : s.2 < ((startOf z).length : Nat)
    · rw [hg, decide_eq_true hl]
      show Met c _ (some i, (((startOf z).length : Nat) : Int))
      refine ⟨fun h => (nomatch h), fun j hj => ?_⟩
      cases hj
      refine ⟨z, List.mem_append_right _ (List.mem_singleton.mpr rfl), hg, rfl, fun p hp hpg => ?_⟩
      rcases List.mem_append.mp hp with q | q
      · cases hs : s.1 with
        | none => exact absurd hpg ((m.no hs).2 p q)
        | some k =>
          obtain ⟨_, _, _, _, h4⟩ := m.yes k hs
          have := h4 p q hpg
          show ((startOf p.2).length : Int) ≤ ((startOf z).length : Nat)
          omega
      · rw [List.mem_singleton.mp q]
        exact Int.le_refl _
    · rw [decide_eq_false hl, Bool.and_false, if_neg Bool.false_ne_true]
      refine ⟨fun h => ?_, fun j hj => ?_⟩
      · have := (m.no h).1
        omega
      · obtain ⟨y, h1, h2, h3, h4⟩ := m.yes j hj
        refine ⟨y, List.mem_append_left _ h1, h2, h3, fun p hp hpg => ?_⟩
        rcases List.mem_append.mp hp with q | q
        · exact h4 p q hpg
        · rw [List.mem_singleton.mp q]
          show ((startOf z).length : Int) ≤ s.2
          omega
  · rw [Bool.not_eq_true] at hg
    rw [hg, Bool.false_and, if_neg Bool.false_ne_true]
    have ng : ¬ Good c z := fun h => by
      unfold Good at h
      rw [hg] at h
      cases h
    refine ⟨fun h => ⟨(m.no h).1, fun p hp => ?_⟩, fun j hj => ?_⟩
    · rcases List.mem_append.mp hp with q | q
      · exact (m.no h).2 p q
      · rw [List.mem_singleton.mp q]
        exact ng
    · obtain ⟨y, h1, h2, h3, h4⟩ := m.yes j hj
      refine ⟨y, List.mem_append_left _ h1, h2, h3, fun p hp hpg => ?_⟩
      rcases List.mem_append.mp hp with q | q
      · exact h4 p q hpg
      · rw [List.mem_singleton.mp q] at hpg
        exact absurd hpg ng
theorem Met.fold {c : Str} {i : Nat} : ∀ (l : List Str) {ns : List (Nat × Str)} {s : Option Nat × Int}, Met c ns s → Met c (ns ++ l.map fun z => (i, z)) (l.foldl (gstep c i) s)
  | [], ns, s, m => by
    rw [List.map_nil, List.append_nil]
    exact m
  | z :: l, ns, s, m => by
    have q := Met.fold (i := i) l (m.step (i := i) (z := z))
    rw [List.append_assoc] at q
    exact q
def prs (gs : List Grp) : Nat → List (Nat × Str)
  | 0 => []
  | j + 1 => match gs[j]? with
    | some g => prs gs j ++ g.names.map fun z => (j, z)
    | none => prs gs j
theorem Met.all (c : Str) (gs : List Grp) : ∀ j, Met c (prs gs j) (accG c gs j)
  | 0 => ⟨fun _ => ⟨rfl, fun _ h => (nomatch h)⟩, fun _ h => (nomatch h)⟩
  | j + 1 => by
    have ih := Met.all c gs j
    unfold prs accG
    cases gs[j]? with
    | none => exact ih
    | some g => exact ih.fold g.names
theorem mem_prs {gs : List Grp} {p : Nat × Str} : ∀ j, p ∈ prs gs j ↔ p.1 < j ∧ ∃ g, gs[p.1]? = some g ∧ p.2 ∈ g.names
  | 0 => ⟨fun h => (nomatch h), fun h => absurd h.1 (Nat.not_lt_zero _)⟩
  | j + 1 => by
    have ih := mem_prs (gs := gs) (p := p) j
    unfold prs
    cases hg : gs[j]? with
    | none =>
      dsimp only
      rw [ih]
      refine ⟨fun ⟨a, b⟩ => ⟨by omega, b⟩, fun ⟨a, g, h1, h2⟩ => ⟨?_, g, h1, h2⟩⟩
      by_cases e : p.1 = j
      · rw [e, hg] at h1
        cases h1
      · omega
    | some g =>
      dsimp only
      rw [List.mem_append, ih]
      constructor
      · rintro (⟨a, b⟩ | h)
        · exact ⟨by omega, b⟩
        · obtain ⟨z, hz, rfl⟩ := List.mem_map.mp h
          exact ⟨Nat.lt_succ_self _, g, hg, hz⟩
      · rintro ⟨a, g', h1, h2⟩
        by_cases e : p.1 = j
        · right
          rw [e, hg] at h1
          cases h1
          exact List.mem_map.mpr ⟨p.2, h2, by rw [← e]⟩
        · exact .inl ⟨by omega, g', h1, h2⟩
/-- the group that a file has for c -/
def chosen (gs : List Grp) (c : Str) : Option Grp := (groupI gs c).bind fun i => gs[i]?
theorem chosen_none {gs : List Grp} {c : Str} (h : groupI gs c = none) : ∀ g ∈ gs, ∀ z ∈ g.names, ¬ Good c z := fun g hg z hz => by
  obtain ⟨i, hi, e⟩ := List.mem_iff_getElem.mp hg
  exact ((Met.all c gs gs.length).no h).2 (i, z) ((mem_prs _).mpr ⟨hi, g, by rw [← e]; exact List.getElem?_eq_getElem hi, hz⟩)
theorem chosen_some {gs : List Grp} {c : Str} {i : Nat} (h : groupI gs c = some i) : ∃ g ∈ gs, gs[i]? = some g ∧ ∃ z ∈ g.names, Good c z ∧ ∀ g' ∈ gs, ∀ y ∈ g'.names, Good c y → (startOf y).length ≤ (startOf z).length := by
  obtain ⟨z, h1, h2, h3, h4⟩ := (Met.all c gs gs.length).yes i h
  obtain ⟨hi, g, hg, hz⟩ := (mem_prs _).mp h1
  refine ⟨g, List.mem_of_getElem? hg, hg, z, hz, h2, fun g' hg' y hy hyg => ?_⟩
  obtain ⟨k, hk, e⟩ := List.mem_iff_getElem.mp hg'
  have := h4 (k, y) ((mem_prs _).mpr ⟨hk, g', by rw [← e]; exact List.getElem?_eq_getElem hk, hy⟩) hyg
  rw [h3] at this
  exact Int.ofNat_le.mp this
theorem good_take {c z : Str} (h : Good c z) : c.cps.toList.take (startOf z).length = (startOf z).cps.toList := by
  unfold Good Txt.startswith at h
  rw [PySem.StrLaws.subAt_eq, List.drop_zero, Bool.and_eq_true, beq_iff_eq] at h
  exact h.2
theorem start_inj {y z : Str} (h1 : 1 ≤ y.length) (h2 : 1 ≤ z.length) (h : startOf y = startOf z) : y = z := by
  unfold startOf at h
  split at h <;> split at h
  · rename_i a b
    rw [a, b]
  · rw [← h] at h2
    exact absurd h2 (by decide)
  · rw [h] at h1
    exact absurd h1 (by decide)
  · exact h
theorem flat_one {α : Type} {f : α → List Str} : ∀ {l : List α}, (l.flatMap f).Nodup → ∀ {a b : α} {z : Str}, a ∈ l → b ∈ l → z ∈ f a → z ∈ f b → a = b
  | [], _, _, _, _, ha, _, _, _ => (nomatch ha)
  | x :: l, h, a, b, z, ha, hb, za, zb => by
    rw [List.flatMap_cons] at h
    obtain ⟨h1, h2, h3⟩ := List.nodup_append.mp h
    rcases List.mem_cons.mp ha with e | ha
    · rcases List.mem_cons.mp hb with e' | hb
      · rw [e, e']
      · rw [e] at za
        exact absurd rfl (h3 z za z (List.mem_flatMap.mpr ⟨b, hb, zb⟩))
    · rcases List.mem_cons.mp hb with e' | hb
      · rw [e'] at zb
        exact absurd rfl (h3 z zb z (List.mem_flatMap.mpr ⟨a, ha, za⟩))
      · exact flat_one h2 ha hb za zb
theorem chosen_same {gs hs : List Grp} (R : FileR gs) (m : ∀ g, g ∈ gs ↔ g ∈ hs) (c : Str) : chosen hs c = chosen gs c := by
  unfold chosen
  cases h1 : groupI gs c with
  | none =>
    cases h2 : groupI hs c with
    | none => rfl
    | some j =>
      obtain ⟨g, hg, _, z, hz, hq, _⟩ := chosen_some h2
      exact absurd hq (chosen_none h1 g ((m g).mpr hg) z hz)
  | some i =>
    obtain ⟨g, hg, eg, z, hz, hq, hmax⟩ := chosen_some h1
    cases h2 : groupI hs c with
    | none => exact absurd hq (chosen_none h2 g ((m g).mp hg) z hz)
    | some j =>
      obtain ⟨g2, hg2, eg2, z2, hz2, hq2, hmax2⟩ := chosen_some h2
      have l1 := hmax g2 ((m g2).mpr hg2) z2 hz2 hq2
      have l2 := hmax2 g ((m g).mp hg) z hz hq
      have t1 := good_take hq
      have t2 := good_take hq2
      have le : (startOf z).length = (startOf z2).length := Nat.le_antisymm l2 l1
      rw [le, t2] at t1
      have es : startOf z2 = startOf z := by
        have : (startOf z2).cps = (startOf z).cps := Array.toList_inj.mp t1
        cases hx : startOf z2
        cases hy : startOf z
        rw [hx, hy] at this
        exact congrArg Str.mk this
      have ez := start_inj (caller_len ((R.grp g2 ((m g2).mpr hg2)).nm z2 hz2)).1 (caller_len ((R.grp g hg).nm z hz)).1 es
      have e3 := flat_one R.one hg ((m g2).mpr hg2) hz (by rw [← ez]; exact hz2)
      show hs[j]? = gs[i]?
      rw [eg, eg2, e3]
theorem rowsOf_ch (gs : List Grp) (c : Str) : rowsOf gs c = ((chosen gs c).map Grp.rows).getD [] := by
  unfold rowsOf chosen
  cases groupI gs c <;> rfl
theorem turn_mem (gs : List Grp) (n : Nat) (g : Grp) : g ∈ gs ↔ g ∈ gs.drop n ++ gs.take n := by
  conv => lhs; rw [← List.take_append_drop n gs]
  rw [List.mem_append, List.mem_append]
  exact Or.comm
theorem limOf_ch (gs : List Grp) (c : Str) : limOf gs c = ((chosen gs c).map Grp.lim).getD [] := by
  unfold limOf chosen
  cases groupI gs c <;> rfl
theorem hrsOf_ch {gs : List Grp} (c : Str) : hrsOf gs c = ((chosen gs c).map Grp.hrs).getD [1] := by
  unfold hrsOf chosen
  cases h : groupI gs c with
  | none => rfl
  | some i =>
    show ((gs[i]?).map Grp.hrs).getD [] = ((gs[i]?).map Grp.hrs).getD [1]
    rw [List.getElem?_eq_getElem (groupI_lt h)]
    rfl
theorem turn_same {gs : List Grp} (R : FileR gs) (n : Nat) (c : Str) : rowsOf (gs.drop n ++ gs.take n) c = rowsOf gs c ∧ limOf (gs.drop n ++ gs.take n) c = limOf gs c ∧ hrsOf (gs.drop n ++ gs.take n) c = hrsOf gs c := by
  have e := chosen_same R (turn_mem gs n) c
  rw [rowsOf_ch, rowsOf_ch, limOf_ch, limOf_ch, hrsOf_ch, hrsOf_ch, e]
  exact ⟨rfl, rfl, rfl⟩
end KP

set_option Elab.async false
set_option maxRecDepth 100000
set_option maxHeartbeats 4000000
set_option linter.all false
/-! Ours: what a turn may change. -/
namespace KP
open PySem PySem.Spec PyProof.Rows L2 Gr GxR PM
structure Mv {K : PySem.W.Frag} {mg : Str → Option Value} (T : D K mg) (p : Addr) (H H' : Hp) : Prop where
  st : ∀ b o, H b = some o → b ≠ p → (∀ ps, o ≠ .tbl ps) → H' b = some o
  w : Well H' p
  t : T8 T H'
section
variable {K : PySem.W.Frag} {mg : Str → Option Value} {T : D K mg} {p : Addr} {H H1 H2 : Hp}
theorem Mv.refl (w : Well H p) (h : T8 T H) : Mv T p H H := ⟨fun _ _ e _ _ => e, w, h⟩
theorem Mv.trans (a : Mv T p H H1) (b : Mv T p H1 H2) : Mv T p H H2 := ⟨fun x o e n m => b.1 x o (a.1 x o e n m) n m, b.2, b.3⟩
theorem well_off {x : Addr} {o : HO} (w : Well H p) (e : H x = some o) (n : ∀ xs, o ≠ .lst xs) : x ≠ p := fun z => by
  obtain ⟨_, _, _, ew⟩ := w
  rw [z, ew] at e
  exact n _ (Option.some.inj e).symm
theorem Mv.u3 (w : Well H p) (h : T8 T H) (u : U3 T H H1) : Mv T p H H1 := by
  refine ⟨fun x o e _ m => u.2 x o e m, ?_, U3.t8 h u⟩
  obtain ⟨a, b, c, e⟩ := w
  exact ⟨a, b, c, u.2 _ _ e (fun _ q => nomatch q)⟩
theorem Mv.but (w : Well H p) (h : T8 T H) (b : But H H1 p) (w1 : Well H1 p) : Mv T p H H1 := by
  have tb : ∀ q, TabG H q → TabG H1 q := fun q ⟨ps, e, t⟩ => ⟨ps, b _ _ e (well_off w e fun _ z => nomatch z), t⟩
  refine ⟨fun x o e n _ => b x o e n, w1, ⟨⟨⟨tb _ h.t.1.1, tb _ h.t.1.2⟩, ?_⟩, tb _ h.n, tb _ h.g, fun q hq => tb q (h.l q hq)⟩⟩
  obtain ⟨ps, e, t, c⟩ := h.t.2
  refine ⟨ps, b _ _ e (well_off w e fun _ q => nomatch q), t, fun pos cv hc => ?_⟩
  obtain ⟨c', e1, e2⟩ := c pos cv hc
  exact ⟨c', e1, b _ _ e2 (well_off w e2 fun _ q => nomatch q)⟩
theorem Mv.same (w : Well H p) (h : T8 T H) (s : Same H H1) : Mv T p H H1 := Mv.u3 w h (U3.same h.t s)
theorem Mv.put (m : Mv T p H H1) {a : Addr} {xs ys : List V} (n : H a = none) (np : a ≠ p) (e : H1 a = some (.lst xs)) : Mv T p H (upd H1 a (.lst ys)) := by
  have u : U3 T H1 H1 := U3.refl m.t.t
  have tb : ∀ q, TabG H1 q → TabG (upd H1 a (.lst ys)) q := fun q ⟨ps, e1, t⟩ => ⟨ps, (upd_ne fun z => by rw [z, e] at e1; cases e1).trans e1, t⟩
  refine ⟨fun x o q nx k => ?_, m.w.put np, ⟨⟨⟨tb _ m.t.t.1.1, tb _ m.t.t.1.2⟩, ?_⟩, tb _ m.t.n, tb _ m.t.g, fun q hq => tb q (m.t.l q hq)⟩⟩
  · rw [upd_ne fun z => by rw [z, n] at q; cases q]
    exact m.st x o q nx k
  · obtain ⟨ps, e1, t, c⟩ := m.t.t.2
    refine ⟨ps, (upd_ne fun z => by rw [z, e] at e1; cases e1).trans e1, t, fun pos cv hc => ?_⟩
    obtain ⟨c', q1, q2⟩ := c pos cv hc
    refine ⟨c', q1, (upd_ne fun z => ?_).trans q2⟩
    rw [z, e] at q2
    unfold LamX.CodeO at q2
    cases q2
theorem Mv.lst (m : Mv T p H H1) {a : Addr} {xs : List V} (e : H a = some (.lst xs)) (n : a ≠ p) : H1 a = some (.lst xs) := m.1 _ _ e n fun _ q => nomatch q
theorem Mv.ts (w : Well H p) (m : Mv T p H H1) : TupStay H H1 := fun a xs e => m.1 _ _ e (well_off w e fun _ q => nomatch q) fun _ q => nomatch q
/-- a file stays what it is -/
theorem Mv.file (w : Well H p) (m : Mv T p H H1) {v : V} {gs : List Grp} (o : Od H v (fileD gs)) : Od H1 v (fileD gs) := Od.ts (m.ts w) o (file_tup gs)
end
def spRightF {K : PySem.W.Frag} {mg : Str → Option Value} (T : D K mg) : Sp := fun vs H Q _ => ∃ p : Addr, vs = [.ref p] ∧ Well H p ∧ T8 T H ∧ ∀ H', Mv T p H H' → Q (.bl true) H'
/-- rules_of and paths_of in a list: small -/
theorem both_facts {gs : List Grp} (R : FileR gs) (c : Str) : (PyData.list [.tuple [.tuple ((limOf gs c).map prD), .tuple ((hrsOf gs c).map .int)], .tuple ((rowsOf gs c).map rowP)]).showable = true ∧ (PyData.list [.tuple [.tuple ((limOf gs c).map prD), .tuple ((hrsOf gs c).map .int)], .tuple ((rowsOf gs c).map rowP)]).depth ≤ 60 ∧ (PyData.list [.tuple [.tuple ((limOf gs c).map prD), .tuple ((hrsOf gs c).map .int)], .tuple ((rowsOf gs c).map rowP)]).shown.length ≤ sizeLine := by
  refine facts_of (w := 200) (k := 4) (n := 2) (fun d hd => ?_) (by show 2 ≤ 2; decide) (by decide) (by decide)
  simp only [List.mem_cons, List.not_mem_nil, or_false] at hd
  rcases hd with rfl | rfl
  · exact (fw_rules R c).up (by decide) (by decide)
  · exact (fw_rows (rowsOf_ok R c)).up (by decide) (by decide)
/-- a file cut or joined -/
theorem od_fileCut {H : Hp} {a : Addr} {xs : List V} {gs : List Grp} (e : H a = some (.tup xs)) (o : OdAll H xs (gs.map grpD)) : Od H (.ref a) (fileD gs) := .tup e o
end KP

set_option Elab.async false
set_option maxRecDepth 100000
set_option maxHeartbeats 4000000
set_option linter.all false
/-! Ours: tuples of data cut and joined, nothing hidden. -/
namespace KP
open PySem PySem.Spec PyProof.Rows L2 Gr GxR PM
theorem cut_whole {xs : List V} {lo hi : Option Int} (h : HT.sIx xs.length 0 lo = 0 ∧ HT.sIx xs.length xs.length hi = xs.length) : cutV xs lo hi = xs := by
  unfold cutV
  rw [h.1, h.2, List.drop_zero, Nat.sub_zero]
  exact List.take_of_length_le (Nat.le_refl _)
theorem sl_from {K : PySem.W.Frag} {x : V} {ds : List PyData} {n : Nat} {H : Hp} {Q : VK} (h : Od H x (.tuple ds)) (k : ∀ z H', Same H H' → Od H' z (.tuple (ds.drop n)) → Q z H') : rSlA K x (some (n : Int)) none H Q := by
  obtain ⟨a, xs, rfl, e, o⟩ := od_tup h
  have od := o.drop n
  rw [← cutV_from xs n] at od
  refine ⟨a, _, rfl, SqT.of e, fun q => k _ _ (.refl _) ?_, fun _ r hr => k _ _ (same_upd hr) (.tup upd_same (od.same (same_upd hr)))⟩
  rw [cut_whole q] at od
  exact .tup e od
theorem sl_to {K : PySem.W.Frag} {x : V} {ds : List PyData} {n : Nat} {H : Hp} {Q : VK} (h : Od H x (.tuple ds)) (k : ∀ z H', Same H H' → Od H' z (.tuple (ds.take n)) → Q z H') : rSlA K x none (some (n : Int)) H Q := by
  obtain ⟨a, xs, rfl, e, o⟩ := od_tup h
  have od := o.take n
  rw [← cutV_to xs n] at od
  refine ⟨a, _, rfl, SqT.of e, fun q => k _ _ (.refl _) ?_, fun _ r hr => k _ _ (same_upd hr) (.tup upd_same (od.same (same_upd hr)))⟩
  rw [cut_whole q] at od
  exact .tup e od
theorem cat_O {K : PySem.W.Frag} {x y : V} {ds es : List PyData} {H : Hp} {Q : VK} (hx : Od H x (.tuple ds)) (hy : Od H y (.tuple es)) (hl : ds.length + es.length ≤ 5000) (k : ∀ z H', Same H H' → Od H' z (.tuple (ds ++ es)) → Q z H') : rCatA K x y H Q := by
  have mz : 5000 ≤ sizeLine := by decide
  obtain ⟨a, xs, rfl, ea, oa⟩ := od_tup hx
  obtain ⟨b, ys, rfl, eb, ob⟩ := od_tup hy
  have la := oa.len
  have lb := ob.len
  refine ⟨a, b, _, _, rfl, rfl, SqT.of ea, SqT.of eb, by omega, fun z => k _ _ (.refl _) ?_, fun _ z => k _ _ (.refl _) ?_, fun _ _ r hr => k _ _ (same_upd hr) (.tup upd_same ((oa.app ob).same (same_upd hr)))⟩
  · subst z
    have : ds = [] := List.eq_nil_of_length_eq_zero la.symm
    rw [this]
    exact hy
  · subst z
    have : es = [] := List.eq_nil_of_length_eq_zero lb.symm
    rw [this, List.append_nil]
    exact hx
end KP

set_option Elab.async false
set_option maxRecDepth 100000
set_option maxHeartbeats 4000000
set_option linter.all false
/-! Ours: _law_right. -/
namespace KP
open PySem PySem.Spec PyProof.Rows L2 Gr GxR PM
/-- what stands from turn to turn -/
structure RI {K : PySem.W.Frag} {mg : Str → Option Value} (T : D K mg) (p q L a : Addr) (z : V) (xs : List V) (l : List Str) (gs hs : List Grp) (H0 H : Hp) : Prop where
  mv : Mv T p H0 H
  eq : H q = some (.lst xs)
  eL : H L = some (.lst (l.map V.str))
  oa : Od H (.ref a) (fileD gs)
  oz : Od H z (fileD hs)
theorem RI.step {K : PySem.W.Frag} {mg : Str → Option Value} {T : D K mg} {p q L a : Addr} {z : V} {xs : List V} {l : List Str} {gs hs : List Grp} {H0 H H1 : Hp} (h : RI T p q L a z xs l gs hs H0 H) (n : q ≠ p) (nL : L ≠ p) (m : Mv T p H H1) : RI T p q L a z xs l gs hs H0 H1 :=
  ⟨h.mv.trans m, m.lst h.eq n, m.lst h.eL nL, m.file h.mv.w h.oa, m.file h.mv.w h.oz⟩
section
variable {P : Program} {w : World} {K : PySem.W.Frag} {mg : Str → Option Value} {base : Heap}
theorem sc_right : FnScope ["_law_well_here", "_law_groups", "_law_first", "_law_turned", "_law_patterns", "_law_group_here", "_law_signs_here", "_law_turn", "_law_who", "_law_route", "_law_row"] ["_law_well_here"] (defScope s_l_right) := ⟨rfl, rfl, rfl, by decide +kernel, rfl, by decide +kernel, by decide +kernel⟩
theorem ok_right (T : D K mg) (TB : Tabs base T) (TR : TabR base T) (TF : TabF base T) (hM : SysM K) : FnQ P w K mg base CX0 13 T.f_l_right T.d_l_right ["_law_well_here"] (spRightF T) := by
  refine funQ T.U_l_right sc_right (fun vs H Q E h => ?_) (fun cdv A outer s H vs Q E hgu hr h => ?_)
  · obtain ⟨p, rfl, _⟩ := h
    rfl
  · obtain ⟨p, rfl, hp, hT, k⟩ := h
    have nd := sc_right.nd
    have hu64 : (A.deeper (envOfC "_law_right" (defScope s_l_right) s.heap.objs.size T.f_l_right cdv)).units + 64 < cLine := hr.units
    have mz : 5000 ≤ sizeLine := by decide
    refine ⟨_, pss_cons (ps_set (i := 1) nd rfl (.inl rfl) (pe_call (ok_sfile T) (hr.mono (by decide)) rfl T.g_l_some_file T.U_l_some_file.kp T.b_l_some_file .nil pass0 (pa_cons (pv 0) (pa_cons pe_int pa_nil))))
      (pss_cons (ps_set (i := 2) nd rfl (.inl rfl) (pe_call (ok_l_pick T) (hr.mono (by decide)) rfl T.g_l_pick T.U_l_pick.kp T.b_l_pick .nil pass0 (pa_cons (pv 0) (pa_cons (pe_op op_add (pe_callB call_len_seq (by rfl) T.len PySem.boot_len (pa_cons (pv 1) pa_nil)) pe_int) pa_nil))))
      (pss_cons (ps_set (i := 3) nd rfl (.inl rfl) (pe_op op_catA (pe_slice sl_tupA (pv 1) (po_some (pv 2)) po_none) (pe_slice sl_tupA (pv 1) po_none (po_some (pv 2)))))
      (pss_cons (ps_set (i := 4) nd rfl (.inl rfl) (pe_lst (pa_cons pe_str pa_nil)))
      (pss_cons (ps_for PassesOwn.never rfl (pi_tup (pv 1)) (pg_name (i := 5) nd rfl (.inl rfl))
        (pss_one (ps_expr (pe_bm PySem.F.plainAttrs_list PySem.F.slot_list_extend PySem.F.type_list_extend mt_extend (pv 4) (pa_cons (pe_lc (own := [("_law_row", 10)]) (g := gName 10) (tt := tYes) rfl nd (pi_tup (pe_ix ix_tup (pv 5) pe_int (fun _ _ => rfl))) (blkOk_by (N := ["_law_well_here", "_law_groups", "_law_first", "_law_turned", "_law_patterns", "_law_group_here", "_law_signs_here", "_law_turn", "_law_who", "_law_route", "_law_row"]) (sc := defScope s_l_right) (by decide +kernel)) (fun _ _ _ _ _ => pg_name (i := 10) nd rfl (.inl rfl)) (fun _ _ _ _ _ => pts_nil) (fun _ _ _ _ _ => pe_ix ix_tupB' (pv 10) pe_int (fun _ _ => rfl))) pa_nil)))))
      (pss_cons (ps_set (i := 6) nd rfl (.inl rfl) (pe_call (ok_l_alphabet T) (hr.mono (by decide)) rfl T.g_l_alphabet T.U_l_alphabet.kp T.b_l_alphabet .nil pass0 (pa_cons (pv 0) pa_nil)))
      (pss_cons (ps_for PassesOwn.never rfl (pi_range1 rfl T.range (pa_cons pe_int pa_nil)) (pg_name (i := 7) nd rfl (.inl rfl))
        (pss_cons (ps_par (i := 8) (j := 9) (by rfl) nd rfl rfl (by decide) rfl rfl (pa_cons (pe_call (ok_scrawl T) (hr.mono (by decide)) rfl T.g_l_some_crawler T.U_l_some_crawler.kp T.b_l_some_crawler .nil pass0 (pa_cons (pv 0) (pa_cons (pv 1) pa_nil))) (pa_cons (pe_call (ok_l_some_path T) (hr.mono (by decide)) rfl T.g_l_some_path T.U_l_some_path.kp T.b_l_some_path .nil pass0 (pa_cons (pv 0) (pa_cons (pv 6) (pa_cons (pe_call (ok_l_one T) (hr.mono (by decide)) rfl T.g_l_one T.U_l_one.kp T.b_l_one .nil pass0 (pa_cons (pv 0) (pa_cons (pv 4) pa_nil))) pa_nil)))) pa_nil)) (by rfl))
        (pss_cons (ps_if (PW.pt (pw_or (pt_not (pt_val (pe_callQ hgu (ok_onerf T TB TR TF hM) hr rfl T.g_l_one_right T.U_l_one_right.kp T.b_l_one_right .nil pass0 (pa_cons (pv 1) (pa_cons (pv 8) (pa_cons (pv 9) pa_nil)))))) (pw_or1 (pt_not (pt_val (pe_callQ hgu (ok_onerf T TB TR TF hM) hr rfl T.g_l_one_right T.U_l_one_right.kp T.b_l_one_right .nil pass0 (pa_cons (pv 3) (pa_cons (pv 8) (pa_cons (pv 9) pa_nil)))))))))
          (pss_one (ps_ret pe_bl))
          (pss_nil))
        (pss_one (ps_if (pt_cmpR op_ne (pe_callB (call_reprD hgu hu64 hM) (by rfl) T.repr (by decide +kernel) (pa_cons (pe_lst (pa_cons (pe_call (ok_rulesof T TB TR TF) (hr.mono (by decide)) rfl T.g_rules_of T.U_rules_of.kp T.b_rules_of .nil pass0 (pa_cons (pv 3) (pa_cons (pv 8) pa_nil))) (pa_cons (pe_call (ok_pathsof T TB TR TF) (hr.mono (by decide)) rfl T.g_paths_of T.U_paths_of.kp T.b_paths_of .nil pass0 (pa_cons (pv 3) (pa_cons (pv 8) pa_nil))) pa_nil))) pa_nil)) (pe_callB (call_reprD hgu hu64 hM) (by rfl) T.repr (by decide +kernel) (pa_cons (pe_lst (pa_cons (pe_call (ok_rulesof T TB TR TF) (hr.mono (by decide)) rfl T.g_rules_of T.U_rules_of.kp T.b_rules_of .nil pass0 (pa_cons (pv 1) (pa_cons (pv 8) pa_nil))) (pa_cons (pe_call (ok_pathsof T TB TR TF) (hr.mono (by decide)) rfl T.g_paths_of T.U_paths_of.kp T.b_paths_of .nil pass0 (pa_cons (pv 1) (pa_cons (pv 8) pa_nil))) pa_nil))) pa_nil)) (nomark _))
          (pss_one (ps_ret pe_bl))
          (pss_nil))))))
      (pss_one (ps_ret (pe_and (pe_callQ hgu (ok_onerf T TB TR TF hM) hr rfl T.g_l_one_right T.U_l_one_right.kp T.b_l_one_right .nil pass0 (pa_cons (pe_tup pa_nil) (pa_cons (pe_call (ok_scrawl T) (hr.mono (by decide)) rfl T.g_l_some_crawler T.U_l_some_crawler.kp T.b_l_some_crawler .nil pass0 (pa_cons (pv 0) (pa_cons (pv 1) pa_nil))) (pa_cons pe_str pa_nil)))) (pe_one (pe_callQ hgu (ok_onerf T TB TR TF hM) hr rfl T.g_l_one_right T.U_l_one_right.kp T.b_l_one_right .nil pass0 (pa_cons (pe_slice sl_tupA (pv 1) po_none (po_some pe_int)) (pa_cons pe_str (pa_cons pe_str pa_nil)))))))))))))), ?_⟩
    refine ⟨_, rfl, p, rfl, hp, fun v gs H1 b1 w1 o1 R => gn ?_⟩
    dsimp only
    have m1 := Mv.but hp hT b1 w1
    obtain ⟨a, xs, rfl, ea, oa⟩ := od_tup o1
    have lx : xs.length = gs.length := by rw [oa.len, List.length_map]
    have l4 := R.len
    refine ⟨_, rfl, _, rfl, a, xs, rfl, .inr (SqT.of ea), _, _, rfl, rfl, p, _, rfl, w1, by omega, by omega, fun n H2 n0 n1 w2 b2 => gn ?_⟩
    dsimp only
    obtain ⟨n, rfl⟩ := Int.eq_ofNat_of_zero_le n0
    have m2 := m1.trans (Mv.but w1 m1.t b2 w2)
    have o2 := Od.ts (but_ts w1 b2) o1 (file_tup gs)
    refine ⟨_, rfl, _, rfl, ((n : Nat) : Int), rfl, ?_⟩
    dsimp only [tNoPart]
    refine sl_from (n := n) o2 fun z1  H3 s3 o3 => ?_
    refine ⟨_, rfl, _, rfl, ((n : Nat) : Int), rfl, ?_⟩
    dsimp only
    refine sl_to (n := n) (o2.same s3) fun z2 H4 s4 o4 => ?_
    refine cat_O (o3.same s4) o4 (by rw [List.length_drop, List.length_take, List.length_map]; omega) fun z3 H5 s5 o5 => gn ?_
    have s25 := s3.trans (s4.trans s5)
    have m5 := m2.trans (Mv.same w2 m2.t s25)
    have oF : Od H5 (.ref a) (fileD gs) := o2.same s25
    have oTn : Od H5 z3 (fileD (gs.drop n ++ gs.take n)) := by
      unfold fileD
      rw [List.map_append, List.map_drop, List.map_take]
      exact o5
    have RT := R.turn n
    clear o5 o4 o3 o2 s3 s4 s5 s25
    refine ⟨by show 1 ≤ sizeLine; omega, fun L hL => gn ?_⟩
    dsimp only
    have sL := same_upd (o := HO.lst [V.str "/*"]) hL
    have nLp := well_ne m5.w hL
    obtain ⟨_, ys, e0, ey, oy⟩ := od_tup oF
    cases e0
    have ly : ys.length = gs.length := by rw [oy.len, List.length_map]
    refine cut1 (fun σ H' => Same H5 H' ∧ ∃ (l : List Str) (v5 v10 : Option V), σ = [some (.ref p), some (.ref a), some (.int n), some z3, some (.ref L), v5, none, none, none, none, v10] ∧ H' L = some (.lst (l.map V.str)) ∧ 0 < l.length ∧ l.length ≤ 25 ∧ ∀ z ∈ l, isPat z = true) (fun N hN => ?_) ?_
    · refine ⟨_, rfl, a, rfl, ⟨ys, SqT.of (sL _ _ ey)⟩, for_tup (xs := ys) (fun i σ Hx => Same H5 Hx ∧ ∃ (l : List Str) (v5 : Option V), σ = [some (.ref p), some (.ref a), some (.int n), some z3, some (.ref L), v5, none, none, none, none, none] ∧ Hx L = some (.lst (l.map V.str)) ∧ 0 < l.length ∧ l.length ≤ 1 + 6 * i ∧ ∀ z ∈ l, isPat z = true)
        ⟨sL, ["/*"], none, rfl, upd_same, by decide, by decide, by decide +kernel⟩ (fun i σ Hx _ q => SqT.of (q.1 _ _ ey)) ?_ ?_⟩
      · rintro i x σ Hx hx ⟨sx, l, v5, rfl, eL, l0, l1, lp⟩
        obtain ⟨d, hd, ox⟩ := od_at oy hx
        rw [List.getElem?_map] at hd
        obtain ⟨g, hgi, rfl⟩ := Option.map_eq_some_iff.mp hd
        obtain ⟨b, bs, rfl, eb0, ob⟩ := od_tup (show Od H5 x (.tuple [.tuple (g.names.map .str), .tuple (g.rows.map rowP), .tuple (g.lim.map prD), .tuple (g.hrs.map .int)]) from ox)
        obtain ⟨x1, x2, x3, x4, rfl, o1, o2, o3, o4⟩ := od4 ob
        obtain ⟨c, cs, rfl, ec, oc⟩ := od_tup o2
        have G := R.grp g (List.mem_of_getElem? hgi)
        have lc := oc.len
        rw [List.length_map] at lc
        have l6 := G.rows.len
        refine gn ?_
        dsimp only
        refine ⟨_, rfl, .inl ⟨rfl, _, SqL.of eL⟩, ?_⟩
        refine ⟨_, rfl, b, _, 1, _, rfl, rfl, SqT.of (sx _ _ eb0), rfl, c, rfl, ⟨_, SqT.of (sx _ _ ec)⟩, fun Em hE => lc_it (walk_tup (K := K) (a := c) (xs := cs)) (fun j Hy => Same Hx Hy ∧ ∃ m : List Str, Hy Em = some (.lst (m.map V.str)) ∧ m.length = j ∧ ∀ z ∈ m, isPat z = true)
          ⟨same_upd hE, [], upd_same, rfl, fun _ h => nomatch h⟩ (fun i Hy _ q => SqT.of (q.1 _ _ (sx _ _ ec))) ?_ ?_⟩
        · rintro j y H3 H4 hj ⟨s3, m, eE, lm, hm⟩ ⟨rfl, hy⟩
          obtain ⟨d2, hd2, oy2⟩ := od_at oc hy
          rw [List.getElem?_map] at hd2
          obtain ⟨r, hr2, rfl⟩ := Option.map_eq_some_iff.mp hd2
          obtain ⟨e, es, rfl, ee, oe⟩ := od_tup oy2
          match es, oe with
          | [_, _], .cons q1 (.cons q2 .nil) =>
          cases q1
          cases q2
          refine ⟨wipe1, ?_⟩
          unfold tYes
          dsimp only
          rw [if_pos rfl]
          have hjl : j < cs.length := (List.getElem?_eq_some_iff.mp hy).1
          refine ⟨_, rfl, e, _, 1, .str r.2, rfl, rfl, SqT.of (s3 _ _ (sx _ _ ee)), rfl, ?_⟩
          refine ⟨_, eE, by rw [List.length_map]; omega, same_put s3 hE, m ++ [r.2], by rw [upd_same, List.map_append]; rfl, by rw [List.length_append, List.length_singleton]; omega, fun z hz => ?_⟩
          rcases List.mem_append.mp hz with q | q
          · exact hm z q
          · rw [List.mem_singleton.mp q]
            exact G.rows.pat r (List.mem_of_getElem? hr2)
        · rintro Hy ⟨sy, m, eE, lm, hm⟩
          have hi4 : i < 4 := by
            have := (List.getElem?_eq_some_iff.mp hx).1
            have := R.len
            omega
          refine ⟨L, Em, _, _, rfl, rfl, sy _ _ eL, eE, by rw [List.length_map, List.length_map]; omega, ?_⟩
          refine ⟨same_put (sx.trans sy) hL, l ++ m, some (.ref b), rfl, by rw [upd_same, List.map_append], by rw [List.length_append]; omega, by rw [List.length_append]; omega, fun z hz => ?_⟩
          rcases List.mem_append.mp hz with q | q
          · exact lp z q
          · exact hm z q
      · rintro σ Hx ⟨sx, l, v5, rfl, eL, l0, l1, lp⟩
        exact hN _ _ ⟨sx, l, v5, none, rfl, eL, l0, by omega, lp⟩
    rintro σ6 H6 ⟨s6, l, v5, v10, rfl, eL, l0, l25, lp⟩
    have m6 := m5.trans (Mv.same m5.w m5.t s6)
    have oF6 := oF.same s6
    have oT6 := oTn.same s6
    clear oF oTn ey oy sL ly m2 m1 b2 w2 b1 w1
    refine ⟨_, rfl, p, rfl, m6.w, fun q xq H7 nq0 b7 w7 eq7 x0 x9 hx => gn ?_⟩
    have nq := well_ne m6.w nq0
    have m7 := Mv.but m6.w m6.t b7 w7
    dsimp only
    have ri : RI T p q L a z3 xq l gs (gs.drop n ++ gs.take n) H H7 := ⟨m6.trans m7, eq7, b7 _ _ eL nLp, m7.file m6.w oF6, m7.file m6.w oT6⟩
    clear oF6 oT6 m7 b7 eq7 m6 eL s6 m5
    refine ⟨_, rfl, by decide, by decide, for_range (n := 5) (fun i σ Hx => RI T p q L a z3 xq l gs (gs.drop n ++ gs.take n) H Hx ∧ ∃ v7 v8 v9 : Option V, σ = [some (.ref p), some (.ref a), some (.int n), some z3, some (.ref L), v5, some (.ref q), v7, v8, v9, v10])
      ⟨ri, none, none, none, rfl⟩ ?_ ?_⟩
    · rintro i σ Hx hi ⟨ri, v7, v8, v9, rfl⟩
      refine gn ?_
      dsimp only
      refine ⟨_, rfl, _, rfl, p, _, gs, rfl, ri.mv.w, ri.oa, R, fun c H8 b8 w8 hc => ?_⟩
      have m8 := Mv.but ri.mv.w ri.mv.t b8 w8
      have ri8 := ri.step nq nLp m8
      refine ⟨_, rfl, _, rfl, _, rfl, _, rfl, p, L, _, rfl, w8, ri8.eL, nLp, by rw [List.length_map]; omega, by rw [List.length_map]; omega, fun j v H9 hv w9 b9 => ?_⟩
      have ri9 := ri8.step nq nLp (Mv.but ri8.mv.w ri8.mv.t b9 w9)
      rw [List.getElem?_map] at hv
      obtain ⟨pt, hpt, rfl⟩ := Option.map_eq_some_iff.mp hv
      have hpat := lp pt (List.mem_of_getElem? hpt)
      refine ⟨p, q, pt, xq, rfl, w9, ri9.eq, nq, x0, by omega, hx, hpat, fun r H10 b10 w10 pr lr => ?_⟩
      have ri10 := ri9.step nq nLp (Mv.but ri9.mv.w ri9.mv.t b10 w10)
      have hp10 := isPath_of pr
      refine ⟨_, _, rfl, ?_⟩
      dsimp only [List.set]
      refine ⟨_, rfl, _, rfl, _, rfl, _, gs, c, r, rfl, ri10.oa, R, hc, hp10, by omega, ri10.mv.t, fun H11 u11 => ?_⟩
      have ri11 := ri10.step nq nLp (Mv.u3 ri10.mv.w ri10.mv.t u11)
      refine ⟨_, rfl, iteF ?_⟩
      refine ⟨_, rfl, _, rfl, _, rfl, _, _, c, r, rfl, ri11.oz, RT, hc, hp10, by omega, ri11.mv.t, fun H12 u12 => ?_⟩
      have ri12 := ri11.step nq nLp (Mv.u3 ri11.mv.w ri11.mv.t u12)
      refine ⟨_, rfl, iteF (next_of ?_)⟩
      dsimp only
      refine ⟨_, rfl, _, rfl, _, _, c, rfl, ri12.oz, RT, hc, ri12.mv.t, fun y1 H13 u13 oy1 => ?_⟩
      have ri13 := ri12.step nq nLp (Mv.u3 ri12.mv.w ri12.mv.t u13)
      refine ⟨_, rfl, _, rfl, _, _, c, rfl, ri13.oz, RT, hc, ri13.mv.t, fun y2 H14 u14 oy2 => ?_⟩
      have ri14 := ri13.step nq nLp (Mv.u3 ri13.mv.w ri13.mv.t u14)
      have oy1' := oy1.stay u14.2
      obtain ⟨f1, f2, f3⟩ := both_facts RT c
      refine ⟨by show 2 ≤ sizeLine; omega, fun L1 hL1 => ?_⟩
      have s15 := same_upd (o := HO.lst [y1, y2]) hL1
      have ri15 := ri14.step nq nLp (Mv.same ri14.mv.w ri14.mv.t s15)
      have d1 : Od (upd H14 L1 (.lst [y1, y2])) (.ref L1) (.list [.tuple [.tuple ((limOf (gs.drop n ++ gs.take n) c).map prD), .tuple ((hrsOf (gs.drop n ++ gs.take n) c).map .int)], .tuple ((rowsOf (gs.drop n ++ gs.take n) c).map rowP)]) := .lst upd_same (.cons (oy1'.same s15) (.cons (oy2.same s15) .nil))
      refine ⟨_, _, rfl, d1.dq, f1, f2, f3, ?_⟩
      refine ⟨_, rfl, _, rfl, _, gs, c, rfl, ri15.oa, R, hc, ri15.mv.t, fun y3 H16 u16 oy3 => ?_⟩
      have ri16 := ri15.step nq nLp (Mv.u3 ri15.mv.w ri15.mv.t u16)
      refine ⟨_, rfl, _, rfl, _, gs, c, rfl, ri16.oa, R, hc, ri16.mv.t, fun y4 H17 u17 oy4 => ?_⟩
      have ri17 := ri16.step nq nLp (Mv.u3 ri16.mv.w ri16.mv.t u17)
      have oy3' := oy3.stay u17.2
      obtain ⟨g1, g2, g3⟩ := both_facts R c
      refine ⟨by show 2 ≤ sizeLine; omega, fun L2 hL2 => ?_⟩
      have s18 := same_upd (o := HO.lst [y3, y4]) hL2
      have ri18 := ri17.step nq nLp (Mv.same ri17.mv.w ri17.mv.t s18)
      have d2 : Od (upd H17 L2 (.lst [y3, y4])) (.ref L2) (.list [.tuple [.tuple ((limOf gs c).map prD), .tuple ((hrsOf gs c).map .int)], .tuple ((rowsOf gs c).map rowP)]) := .lst upd_same (.cons (oy3'.same s18) (.cons (oy4.same s18) .nil))
      refine ⟨_, _, rfl, d2.dq, g1, g2, g3, ?_⟩
      obtain ⟨e1, e2, e3⟩ := turn_same R n c
      rw [e1, e2, e3]
      refine ⟨rfl, _, rfl, ?_⟩
      rw [decide_eq_true rfl]
      exact iteF (next_of ⟨ri18, _, _, _, rfl⟩)
    · rintro σ Hx ⟨ri, v7, v8, v9, rfl⟩
      refine ⟨by show 0 ≤ sizeLine; omega, fun E1 hE1 => ?_⟩
      have sE := same_upd (o := HO.tup []) hE1
      have riE := ri.step nq nLp (Mv.same ri.mv.w ri.mv.t sE)
      have eE : upd Hx E1 (HO.tup []) E1 = some (.tup []) := upd_same
      generalize upd Hx E1 (HO.tup []) = HE at riE eE
      refine ⟨_, rfl, _, rfl, p, _, gs, rfl, riE.mv.w, riE.oa, R, fun c H8 b8 w8 hc => ?_⟩
      have m8 := Mv.but riE.mv.w riE.mv.t b8 w8
      have ri8 := riE.step nq nLp m8
      have oE : Od H8 (.ref E1) (fileD []) := .tup ((m8.ts riE.mv.w) _ _ eE) .nil
      refine ⟨.ref E1, [], c, "/a", rfl, oE, fileR_nil, hc, by decide +kernel, by decide, ri8.mv.t, fun H9 u9 => ⟨_, rfl, iteT ?_⟩⟩
      have ri9 := ri8.step nq nLp (Mv.u3 ri8.mv.w ri8.mv.t u9)
      refine ⟨_, rfl, 1, rfl, ?_⟩
      refine sl_to (n := 1) ri9.oa fun z H10 s10 o10 => ?_
      have ri10 := ri9.step nq nLp (Mv.same ri9.mv.w ri9.mv.t s10)
      rw [← List.map_take] at o10
      refine ⟨z, gs.take 1, "z", "/", rfl, o10, R.take 1, by decide +kernel, by decide +kernel, by decide, ri10.mv.t, fun H11 u11 => ?_⟩
      exact k _ (ri10.mv.trans (Mv.u3 ri10.mv.w ri10.mv.t u11))
end
end KP

set_option Elab.async false
set_option maxRecDepth 100000
set_option maxHeartbeats 4000000
set_option linter.all false
/-! Ours: the law. -/
namespace KP
open PySem PySem.Spec PyProof.Rows L2 Gr GxR PM
def tabs {K : PySem.W.Frag} {mg : Str → Option Value} (T : D K mg) : List Addr := [T.P_is_name, T.P_is_path, T.P_is_pattern, T.P_ranked, T.P_is_group, T.P_are_limits, T.P_are_hours]
structure TabA {K : PySem.W.Frag} {mg : Str → Option Value} (base : Heap) (T : D K mg) : Prop where
  m : TabB base mg T.c_is_name T.P_is_name
  a : TabB base mg T.c_is_path T.P_is_path
  b : TabB base mg T.c_is_pattern T.P_is_pattern
  r : TabB base mg T.c_ranked T.P_ranked
  g : TabB base mg T.c_is_group T.P_is_group
  l : TabB base mg T.c_are_limits T.P_are_limits
  h : TabB base mg T.c_are_hours T.P_are_hours
  n1 : T.P_ranked ≠ T.P_is_path
  n2 : T.P_ranked ≠ T.P_is_pattern
  r1 : T.P_ranked ≠ T.P_is_name
  r2 : T.P_ranked ≠ T.P_is_group
  r3 : T.P_ranked ≠ T.P_are_limits
  r4 : T.P_ranked ≠ T.P_are_hours
theorem TabA.tb {K : PySem.W.Frag} {mg : Str → Option Value} {base : Heap} {T : D K mg} (h : TabA base T) : Tabs base T := ⟨h.a, h.b⟩
theorem TabA.tr {K : PySem.W.Frag} {mg : Str → Option Value} {base : Heap} {T : D K mg} (h : TabA base T) : TabR base T := ⟨h.r, h.n1, h.n2⟩
theorem TabA.tf {K : PySem.W.Frag} {mg : Str → Option Value} {base : Heap} {T : D K mg} (h : TabA base T) : TabF base T := ⟨⟨h.m⟩, ⟨h.l, h.h⟩, h.g, h.r1, h.r2, h.r3, h.r4⟩
theorem T8.of {K : PySem.W.Frag} {mg : Str → Option Value} {T : D K mg} {H : Hp} (h : ∀ q ∈ tabs T, H q = some (.tbl #[])) : T8 T H := by
  have g : ∀ q ∈ tabs T, TabG H q := fun q hq => ⟨#[], h q hq, by simp [TriplesOk]⟩
  refine ⟨⟨⟨g _ (by simp [tabs]), g _ (by simp [tabs])⟩, ⟨#[], h _ (by simp [tabs]), by simp [TriplesOk], fun pos cv hc => by cases hc⟩⟩, g _ (by simp [tabs]), g _ (by simp [tabs]), fun q hq => g q ?_⟩
  simp only [tabL, List.mem_cons, List.not_mem_nil, or_false] at hq
  rcases hq with rfl | rfl <;> simp [tabs]
theorem T8.put {K : PySem.W.Frag} {mg : Str → Option Value} {T : D K mg} {H : Hp} {L : Addr} {xs ys : List V} (h : T8 T H) (e : H L = some (.lst xs)) : T8 T (upd H L (.lst ys)) := by
  have ne : ∀ {x : Addr} {o : HO}, H x = some o → (∀ zs, o ≠ .lst zs) → x ≠ L := fun h n z => by
    rw [z, e] at h
    exact n _ (Option.some.inj h).symm
  have tb : ∀ q, TabG H q → TabG (upd H L (.lst ys)) q := fun q ⟨ps, e, t⟩ => ⟨ps, (upd_ne (ne e fun _ q => nomatch q)).trans e, t⟩
  refine ⟨⟨⟨tb _ h.t.1.1, tb _ h.t.1.2⟩, ?_⟩, tb _ h.n, tb _ h.g, fun q hq => tb q (h.l q hq)⟩
  obtain ⟨ps, e, t, c⟩ := h.t.2
  refine ⟨ps, (upd_ne (ne e fun _ q => nomatch q)).trans e, t, fun pos cv hc => ?_⟩
  obtain ⟨c', e1, e2⟩ := c pos cv hc
  exact ⟨c', e1, (upd_ne (ne e2 fun _ q => nomatch q)).trans e2⟩
theorem all_true : ∀ n, (List.replicate n true).all id = true
  | 0 => rfl
  | n + 1 => by
    rw [List.replicate_succ, List.all_cons, all_true n]
    rfl
theorem sql_stay {K : PySem.W.Frag} {H H' : Hp} {a : Addr} {xs : List V} (s : Stay H H') (h : SqL K H a xs) : SqL K H' a xs := by
  rcases h with (h | ⟨o, h⟩) | h
  · exact .inl (.inl (s _ _ h fun _ q => nomatch q))
  · exact .inl (.inr ⟨o, s _ _ h fun _ q => nomatch q⟩)
  · exact .inr h
def spLaw {K : PySem.W.Frag} {mg : Str → Option Value} (T : D K mg) : Sp := fun vs H Q _ => ∃ (a : Addr) (ns : List Int), vs = [.ref a] ∧ SqL K H a (ns.map V.int) ∧ ns.length ≤ 63 ∧ (∀ q ∈ tabs T, H q = some (.tbl #[])) ∧ ∀ H', Q (.bl true) H'
section
variable {P : Program} {w : World} {K : PySem.W.Frag} {mg : Str → Option Value} {base : Heap} {C : Addr}
theorem sc_law : FnScope ["_law_script", "_law_turn"] ["_law_script"] (defScope s_law) := ⟨rfl, rfl, rfl, by decide +kernel, rfl, by decide +kernel, by decide +kernel⟩
theorem ok_law (T : D K mg) (TA : TabA base T) (hM : SysM K) : FnQ P w K mg base CX0 14 T.f_law T.d_law ["_law_script"] (spLaw T) := by
  refine funQ T.U_law sc_law (fun vs H Q E h => ?_) (fun cdv A outer s H vs Q E hgu hr h => ?_)
  · obtain ⟨a, ns, rfl, _⟩ := h
    rfl
  · obtain ⟨a, ns, rfl, hS, hl, hT, k⟩ := h
    have nd := sc_law.nd
    have GR : FnQ P w K mg base CX0 13 T.f_l_right T.d_l_right ["_law_well_here"] (spRightF T) := ok_right T TA.tb TA.tr TA.tf hM
    refine ⟨_, pss_one (ps_ret (pe_callB (cr_all rfl) (by rfl) T.all boot_all (pa_cons (pe_lc (own := [("_law_turn", 1)]) (g := gName 1) (tt := tYes) rfl nd (pi_range1 rfl T.range (pa_cons (pe_callB (call_max2 rfl) (by rfl) T.max boot_max (pa_cons pe_int (pa_cons (pe_callB (call_min2 rfl) (by rfl) T.min boot_min (pa_cons (pe_callB call_len_seq (by rfl) T.len PySem.boot_len (pa_cons (pv 0) pa_nil)) (pa_cons pe_int pa_nil))) pa_nil))) pa_nil)) (blkOk_by (N := ["_law_script", "_law_turn"]) (sc := defScope s_law) (by decide +kernel)) (fun _ _ _ _ _ => pg_name (i := 1) nd rfl (.inl rfl)) (fun _ _ _ _ _ => pts_nil) (fun _ _ _ _ _ => pe_callQ hgu GR hr rfl T.g_l_right T.U_l_right.kp T.b_l_right .nil pass0 (pa_cons (pe_call (ok_l_well T) (hr.mono (by decide)) rfl T.g_l_well T.U_l_well.kp T.b_l_well .nil pass0 (pa_cons (pv 0) (pa_cons (pv 1) pa_nil))) pa_nil))) pa_nil))), ?_⟩
    refine ⟨_, rfl, a, _, rfl, .inl hS, _, _, rfl, _, _, rfl, _, rfl, ?_, ?_, fun D hD => lc_range (n := _) (fun n H2 => Stay H H2 ∧ T8 T H2 ∧ H2 D = some (.lst ((List.replicate n true).map V.bl))) ⟨fun x o e _ => same_upd hD x o e, U3.t8 (T8.of hT) (U3.same (T8.of hT).t (same_upd hD)), upd_same⟩ ?_ ?_⟩
    · split <;> split <;> omega
    · split <;> split <;> omega
    · rintro n H2 hn ⟨s2, t2, hDn⟩
      refine ⟨wipe1, ?_⟩
      unfold tYes
      dsimp only
      rw [if_pos rfl]
      have hn6 : n < 63 := by
        refine Nat.lt_of_lt_of_le hn ?_
        split <;> split <;> omega
      refine ⟨_, rfl, _, rfl, a, ns, (n : Int), ?_, sql_stay s2 hS, by omega, by omega, fun q H3 hq hw s3 => ⟨q, rfl, hw, U3.t8 t2 (U3.same t2.t s3), fun H4 mv => ?_⟩⟩
      · rw [Int.zero_add]
        rfl
      · have s4 : Stay H2 H4 := fun b o e m => mv.st b o (s3 b o e) (ne_of_none e hq) m
        refine ⟨_, s4 _ _ hDn (fun _ q => nomatch q), ?_, ?_, ?_, ?_⟩
        · rw [List.length_map, List.length_replicate, sizeLine_eq]
          omega
        · intro b o e m
          rw [upd_ne (ne_of_none e hD)]
          exact s4 _ _ (s2 _ _ e m) m
        · exact T8.put mv.t (s4 _ _ hDn (fun _ q => nomatch q))
        · rw [upd_same, List.replicate_succ', List.map_append]
          rfl
    · rintro H2 ⟨s2, t2, hDn⟩
      refine ⟨D, _, rfl, SqL.of hDn, ?_⟩
      rw [all_true]
      exact k _
end
end KP

set_option Elab.async false
set_option maxRecDepth 100000
set_option maxHeartbeats 8000000
set_option linter.all false
namespace KP
open PySem PySem.Spec PyProof.Rows L2 Gr GxR PySem.W
/-! what is asked of the written part -/
def hasRef : Option Value → Addr → Bool
  | some (.ref a), q => a == q
  | _, _ => false
def isStrV : Value → Bool
  | .str _ _ => true
  | _ => false
def isIntV : Value → Bool
  | .int _ _ => true
  | _ => false
def isBoolV : Value → Bool
  | .bool _ => true
  | _ => false
def hdB (K : Frag) (c q : Addr) : Bool := match K.lookup c with
  | some ⟨.type n, _, .fields vs, _⟩ => n == "code" && (hasRef vs[11]? q && (isStrV (vs.getD 18 .none) && (isIntV (vs.getD 7 .none) && (isBoolV (vs.getD 9 .none) && isIntV (vs.getD 10 .none)))))
  | _ => false
theorem hdB_ok {K : Frag} {h : Heap} {c q : Addr} (X : K.In h) (n : c ≠ q) (e : hdB K c q = true) : CodeHd h c q := by
  unfold hdB at e
  split at e
  · rename_i nm od vs sl hk
    simp only [Bool.and_eq_true, beq_iff_eq] at e
    obtain ⟨rfl, e1, e2, e3, e4, e5⟩ := e
    have r : vs[11]? = some (.ref q) := by
      cases hv : vs[11]? with
      | none => rw [hv] at e1; cases e1
      | some v =>
        rw [hv] at e1
        cases v with
        | ref a =>
          have : (a == q) = true := e1
          rw [beq_iff_eq.mp this]
        | _ => cases e1
    have r2 : vs.getD 11 .none = .ref q := by rw [Array.getD_eq_getD_getElem?, r]; rfl
    generalize h18 : vs.getD 18 .none = v18 at e2
    generalize h7 : vs.getD 7 .none = v7 at e3
    generalize h9 : vs.getD 9 .none = v9 at e4
    generalize h10 : vs.getD 10 .none = v10 at e5
    cases v18 <;> first | cases e2 | skip
    cases v7 <;> first | cases e3 | skip
    cases v9 <;> first | cases e4 | skip
    cases v10 <;> first | cases e5 | skip
    exact ⟨_, vs, _, _, _, _, _, _, _, X _ _ hk, rfl, rfl, r, r2, h18, h7, h9, h10, n⟩
  · cases e
theorem rangeOf {k : Nat} {t : Nat → Bool} (h : (List.range k).all t = true) {n : Nat} (hn : n < k) : t n = true := List.all_eq_true.mp h n (List.mem_range.mpr hn)
def bis : List Str := ("abs" : Str) :: ("all" : Str) :: ("bool" : Str) :: ("divmod" : Str) :: ("enumerate" : Str) :: ("int" : Str) :: ("isinstance" : Str) :: ("len" : Str) :: ("list" : Str) :: ("max" : Str) :: ("min" : Str) :: ("range" : Str) :: ("repr" : Str) :: ("sorted" : Str) :: ("str" : Str) :: ("sum" : Str) :: ("tuple" : Str) :: []
def chkN (K : Frag) : Bool := (List.range 17).all fun n => decide (nsIn K mainGlobals (bis.getD n "") = some none)
theorem nameN {K : Frag} {h : Heap} {mg : Str → Option Value} (X : K.In h) (G : h.Ns mainGlobals mg) (c : chkN K = true) (n : Nat) (hn : n < 17) : mg (bis.getD n "") = none := mg_none_of X G (of_decide_eq_true (rangeOf c hn))
def fnm : List Str := ("is_whole" : Str) :: ("is_between" : Str) :: ("is_tuple" : Str) :: ("is_name" : Str) :: ("is_path" : Str) :: ("check_name" : Str) :: ("check_path" : Str) :: ("is_pattern" : Str) :: ("check_pattern" : Str) :: ("body_of" : Str) :: ("is_path_row" : Str) :: ("fault_in_paths" : Str) :: ("are_paths" : Str) :: ("check_paths" : Str) :: ("machine_of" : Str) :: ("ranked" : Str) :: ("decided" : Str) :: ("deciding" : Str) :: ("is_let_by" : Str) :: ("is_limit" : Str) :: ("are_limits" : Str) :: ("are_hours" : Str) :: ("is_caller" : Str) :: ("is_group" : Str) :: ("fault_in_file" : Str) :: ("check_file" : Str) :: ("group_of" : Str) :: ("paths_of" : Str) :: ("rules_of" : Str) :: ("is_let" : Str) :: ("reason" : Str) :: ("_law_well" : Str) :: ("_law_pick" : Str) :: ("_law_one" : Str) :: ("_law_signs" : Str) :: ("_law_alphabet" : Str) :: ("_law_body" : Str) :: ("_law_fits" : Str) :: ("_law_meets" : Str) :: ("_law_some_pattern" : Str) :: ("_law_some_path" : Str) :: ("_law_some_rows" : Str) :: ("_law_decides" : Str) :: ("_law_bars" : Str) :: ("_law_some_limits" : Str) :: ("_law_some_hours" : Str) :: ("_law_some_name" : Str) :: ("_law_some_file" : Str) :: ("_law_group" : Str) :: ("_law_some_crawler" : Str) :: ("_law_one_right" : Str) :: ("_law_right" : Str) :: ("law" : Str) :: []
def fad : List Addr := [136, 143, 150, 157, 164, 171, 178, 258, 265, 272, 279, 286, 293, 300, 305, 310, 317, 324, 331, 338, 345, 352, 359, 366, 373, 380, 387, 394, 401, 408, 415, 422, 429, 436, 443, 448, 455, 462, 469, 476, 483, 490, 497, 504, 509, 514, 519, 526, 531, 536, 543, 548, 553]
def chkF (K : Frag) : Bool := (List.range 53).all fun n => decide (nsIn K mainGlobals (fnm.getD n "") = some (some (.ref (fad.getD n 0)))) && keepIn K (.ref (fad.getD n 0))
theorem nameF {K : Frag} {h : Heap} {mg : Str → Option Value} (X : K.In h) (G : h.Ns mainGlobals mg) (c : chkF K = true) (n : Nat) (hn : n < 53) : mg (fnm.getD n "") = some (.ref (fad.getD n 0)) ∧ keepIn K (.ref (fad.getD n 0)) = true := by
  have q := rangeOf c hn
  simp only [Bool.and_eq_true, decide_eq_true_eq] at q
  exact ⟨mg_of X G q.1, q.2⟩
def chkS (K : Frag) : Bool := match K.lookup sysModules with
  | some ⟨_, _, .dict _ _, _⟩ => true
  | _ => false
theorem sysM_of {K : Frag} (h : chkS K = true) : SysM K := by
  unfold chkS at h
  split at h
  · rename_i es n _ q
    exact ⟨_, es, n, q, rfl⟩
  · cases h
def recHd (K : Frag) (a g : Addr) : Bool := match recIn K a "property" with
  | some (.ref x :: _) => x == g
  | _ => false
theorem recHd_ok {K : Frag} {a g : Addr} (h : recHd K a g = true) : ∃ rest, recIn K a "property" = some (.ref g :: rest) := by
  unfold recHd at h
  split at h
  · rename_i x r q
    exact ⟨r, by rw [q, beq_iff_eq.mp h]⟩
  · cases h
/-- defaults: the tuple at the place holds the int -/
def chkDf (K : Frag) (a : Addr) (m : Int) : Bool := match K.lookup a with
  | some ⟨_, _, .seq its _, _⟩ => (match its.toList with | [.int i _] => i == m | _ => false)
  | _ => false
theorem fun_mkP {K K0 : Frag} {x qual : Str} {m : Int} {st : Stmt} {f a : Addr} {oc : Value} {od an : Option Addr} {osl : Array (Option Value)} {kV doc pm cdv ct : Value} (hK : ∀ b, b ≠ sysModules → K.lookup b = K0.lookup b) (ne : f ≠ sysModules)
    (l : K0.lookup f = some ⟨oc, od, .func (fnOf x qual (defArgs st) (defBody st) (defScope st) (.ref a) kV doc pm an cdv ct), osl⟩) (c : codeIn K cdv qual = true) (q : chkDf K a m = true) : ∃ fd, keepIn K (.ref f) = true → FunD K x qual (defArgs st) (defBody st) (defScope st) [.int m] [] f fd := by
  refine ⟨_, fun k => ⟨⟨oc, od, .ref a, kV, doc, pm, an, cdv, ct, osl, rfl, (hK _ ne).trans l, c, .inr ⟨List.cons_ne_nil _ _, ?_⟩, .inl rfl⟩, k⟩⟩
  unfold chkDf at q
  split at q
  · rename_i c0 d0 its n0 sl0 e
    split at q
    · rename_i i t hi
      refine ⟨a, _, its.toList, n0, rfl, e, by simp, ?_⟩
      rw [hi, beq_iff_eq.mp q]
      exact .cons ⟨t, rfl⟩ .nil
    · cases q
  · cases q
def chkKw (K : Frag) (D : Addr) (x : Str) (n : Int) : Bool := match nsIn K D x with
  | some (some (.int m _)) => m == n
  | _ => false
theorem fun_mkK {K K0 : Frag} {x qual y : Str} {n : Int} {st : Stmt} {f D : Addr} {oc : Value} {od an : Option Addr} {osl : Array (Option Value)} {doc pm cdv ct : Value} (hK : ∀ b, b ≠ sysModules → K.lookup b = K0.lookup b) (ne : f ≠ sysModules)
    (l : K0.lookup f = some ⟨oc, od, .func (fnOf x qual (defArgs st) (defBody st) (defScope st) .none (.ref D) doc pm an cdv ct), osl⟩) (c : codeIn K cdv qual = true) (q : chkKw K D y n = true) : ∃ fd, keepIn K (.ref f) = true → FunD K x qual (defArgs st) (defBody st) (defScope st) [] [(y, .int n)] f fd := by
  refine ⟨_, fun k => ⟨⟨oc, od, .none, .ref D, doc, pm, an, cdv, ct, osl, rfl, (hK _ ne).trans l, c, .inl ⟨rfl, rfl⟩, .inr ⟨D, rfl, fun z hz => ?_⟩⟩, k⟩⟩
  rw [List.mem_singleton.mp hz]
  unfold chkKw at q
  split at q
  · rename_i m t e
    exact ⟨_, e, t, by rw [beq_iff_eq.mp q]⟩
  · cases q
def chkMachine (K : Frag) : Bool := plainGet K 247 Str.empty && (hasDictIn K 247 && (plainOver K 247 && (decide (findIn K (.ref 247) "__setattr__" = some (some (.builtin "object.__setattr__"))) && (decide (nsIn K mainGlobals "Machine" = some (some (.ref 247))) && (makesIn K 247 && (decide (findIn K (.ref 247) "__init__" = some (some (.ref 192))) && keepIn K (.ref 247)))))))
def fldMachine : List Str := ("bodies" : Str) :: ("ends" : Str) :: ("held" : Str) :: ("moves" : Str) :: ("signs" : Str) :: ("stars" : Str) :: ("starts" : Str) :: []
def chkAMachine (K : Frag) : Bool := (List.range 7).all fun n => decide (findIn K (.ref 247) (fldMachine.getD n "") = some none)
theorem noAMachine {K : Frag} (c : chkAMachine K = true) (n : Nat) (hn : n < 7) : findIn K (.ref 247) (fldMachine.getD n "") = some none := of_decide_eq_true (rangeOf c hn)
def metMachine : List Str := ("__init__" : Str) :: ("_take" : Str) :: ("_telling_signs" : Str) :: ("_closed" : Str) :: ("step" : Str) :: ("begun" : Str) :: ("behind" : Str) :: ("places_of" : Str) :: ("standing_of" : Str) :: []
def madMachine : List Addr := [192, 199, 204, 211, 218, 223, 230, 237, 244]
def chkMMachine (K : Frag) : Bool := (List.range 9).all fun n => decide (findIn K (.ref 247) (metMachine.getD n "") = some (some (.ref (madMachine.getD n 0)))) && (isFn K (.ref (madMachine.getD n 0)) && keepIn K (.ref (madMachine.getD n 0)))
theorem methMachine {K : Frag} (c : chkMMachine K = true) (n : Nat) (hn : n < 9) : Meth K 247 (metMachine.getD n "") (madMachine.getD n 0) := by
  have q := rangeOf c hn
  simp only [Bool.and_eq_true, decide_eq_true_eq] at q
  exact ⟨q.1, q.2.1, q.2.2⟩
theorem fun_mkS {K K0 : Frag} {x qual : Str} {st : Stmt} {f : Addr} {oc : Value} {od an : Option Addr} {osl : Array (Option Value)} {kV doc pm cdv ct : Value} (hK : ∀ b, b ≠ sysModules → K.lookup b = K0.lookup b) (ne : f ≠ sysModules)
    (l : K0.lookup f = some ⟨oc, od, .func (fnOf x qual (defArgs st) (defBody st) (defScope st) .none kV doc pm an cdv ct), osl⟩) (c : codeIn K cdv qual = true) : ∃ fd, keepIn K (.ref f) = true → Fun K x qual st f fd :=
  ⟨_, fun k => fun_mk ((hK _ ne).trans l) c k⟩
theorem fun_mkC {K K0 : Frag} {x qual : Str} {st : Stmt} {f c : Addr} {oc : Value} {od an : Option Addr} {osl : Array (Option Value)} {kV doc pm ct : Value} (hK : ∀ b, b ≠ sysModules → K.lookup b = K0.lookup b) (ne : f ≠ sysModules)
    (l : K0.lookup f = some ⟨oc, od, .func (fnOf x qual (defArgs st) (defBody st) (defScope st) .none kV doc pm an (.ref c) ct), osl⟩) (cc : codeIn K (.ref c) qual = true) : ∃ fd, keepIn K (.ref f) = true → FunC K x qual st f fd c :=
  ⟨_, fun k => ⟨⟨oc, od, kV, doc, pm, an, ct, osl, rfl, (hK _ ne).trans l, cc⟩, k⟩⟩
def chkInt (K : Frag) (x : Str) (n : Int) : Bool := match nsIn K mainGlobals x with
  | some (some (.int m _)) => m == n
  | _ => false
def chkStr (K : Frag) (x : Str) (n : Str) : Bool := match nsIn K mainGlobals x with
  | some (some (.str m _)) => m == n
  | _ => false
theorem int_of {K : Frag} {x : Str} {n : Int} (h : chkInt K x n = true) : ∃ t, nsIn K mainGlobals x = some (some (.int n t)) := by
  unfold chkInt at h
  split at h
  · rename_i m t q
    exact ⟨t, by rw [q, beq_iff_eq.mp h]⟩
  · cases h
theorem str_of {K : Frag} {x : Str} {n : Str} (h : chkStr K x n = true) : ∃ t, nsIn K mainGlobals x = some (some (.str n t)) := by
  unfold chkStr at h
  split at h
  · rename_i m t q
    exact ⟨t, by rw [q, beq_iff_eq.mp h]⟩
  · cases h
/-- all that is asked of the written part -/
structure Facts (K : Frag) : Prop where
  n : chkN K = true
  f : chkF K = true
  s : chkS K = true
  cMachine : chkMachine K = true
  aMachine : chkAMachine K = true
  mMachine : chkMMachine K = true
  k0 : chkStr K "LETTERS" "abcdefghijklmnopqrstuvwxyz" = true
  k1 : chkStr K "SIGNS" "-./0123456789_abcdefghijklmnopqrstuvwxyz" = true
  k2 : chkInt K "LONGEST_NAME" 12 = true
  k3 : chkInt K "LONGEST_PATTERN" 12 = true
  k4 : chkInt K "MOST_STARS" 4 = true
  k5 : chkInt K "MOST_PATHS" 6 = true
  k6 : chkInt K "MOST_ASKS" 6 = true
  k7 : chkInt K "WIDEST" 12 = true
  k8 : chkInt K "MOST_PAIRS" 4 = true
  k9 : chkStr K "ANYONE" "*" = true
  k10 : chkInt K "MOST_GROUPS" 4 = true
  k11 : chkInt K "MOST_NAMES" 3 = true
  d0 : ∃ fd, keepIn K (.ref 136) = true → Fun K "is_whole" "is_whole" s_is_whole 136 fd
  d1 : ∃ fd, keepIn K (.ref 143) = true → Fun K "is_between" "is_between" s_is_between 143 fd
  d2 : ∃ fd, keepIn K (.ref 150) = true → Fun K "is_tuple" "is_tuple" s_is_tuple 150 fd
  d3 : ∃ fd, keepIn K (.ref 157) = true → FunC K "is_name" "is_name" s_is_name 157 fd 156
  t3 : hdB K 156 152 = true
  o3 : (K.lookup 152).isNone = true
  d4 : ∃ fd, keepIn K (.ref 164) = true → FunC K "is_path" "is_path" s_is_path 164 fd 163
  t4 : hdB K 163 159 = true
  o4 : (K.lookup 159).isNone = true
  d5 : ∃ fd, keepIn K (.ref 171) = true → Fun K "check_name" "check_name" s_check_name 171 fd
  d6 : ∃ fd, keepIn K (.ref 178) = true → Fun K "check_path" "check_path" s_check_path 178 fd
  d7 : ∃ fd, keepIn K (.ref 192) = true → Fun K "__init__" "Machine.__init__" s_init 192 fd
  d8 : ∃ fd, keepIn K (.ref 199) = true → Fun K "_take" "Machine._take" s__take 199 fd
  d9 : ∃ fd, keepIn K (.ref 204) = true → Fun K "_telling_signs" "Machine._telling_signs" s__telling_signs 204 fd
  d10 : ∃ fd, keepIn K (.ref 211) = true → Fun K "_closed" "Machine._closed" s__closed 211 fd
  d11 : ∃ fd, keepIn K (.ref 218) = true → Fun K "step" "Machine.step" s_step 218 fd
  d12 : ∃ fd, keepIn K (.ref 223) = true → Fun K "begun" "Machine.begun" s_begun 223 fd
  d13 : ∃ fd, keepIn K (.ref 230) = true → Fun K "behind" "Machine.behind" s_behind 230 fd
  d14 : ∃ fd, keepIn K (.ref 237) = true → Fun K "places_of" "Machine.places_of" s_places_of 237 fd
  d15 : ∃ fd, keepIn K (.ref 244) = true → Fun K "standing_of" "Machine.standing_of" s_standing_of 244 fd
  d16 : ∃ fd, keepIn K (.ref 258) = true → FunC K "is_pattern" "is_pattern" s_is_pattern 258 fd 257
  t16 : hdB K 257 253 = true
  o16 : (K.lookup 253).isNone = true
  d17 : ∃ fd, keepIn K (.ref 265) = true → Fun K "check_pattern" "check_pattern" s_check_pattern 265 fd
  d18 : ∃ fd, keepIn K (.ref 272) = true → Fun K "body_of" "body_of" s_body_of 272 fd
  d19 : ∃ fd, keepIn K (.ref 279) = true → Fun K "is_path_row" "is_path_row" s_is_path_row 279 fd
  d20 : ∃ fd, keepIn K (.ref 286) = true → Fun K "fault_in_paths" "fault_in_paths" s_fault_in_paths 286 fd
  d21 : ∃ fd, keepIn K (.ref 293) = true → Fun K "are_paths" "are_paths" s_are_paths 293 fd
  d22 : ∃ fd, keepIn K (.ref 300) = true → Fun K "check_paths" "check_paths" s_check_paths 300 fd
  d23 : ∃ fd, keepIn K (.ref 305) = true → Fun K "machine_of" "machine_of" s_machine_of 305 fd
  d24 : ∃ fd, keepIn K (.ref 310) = true → FunC K "ranked" "ranked" s_ranked 310 fd 309
  t24 : hdB K 309 307 = true
  o24 : (K.lookup 307).isNone = true
  d25 : ∃ fd, keepIn K (.ref 317) = true → Fun K "decided" "decided" s_decided 317 fd
  d26 : ∃ fd, keepIn K (.ref 324) = true → Fun K "deciding" "deciding" s_deciding 324 fd
  d27 : ∃ fd, keepIn K (.ref 331) = true → Fun K "is_let_by" "is_let_by" s_is_let_by 331 fd
  d28 : ∃ fd, keepIn K (.ref 338) = true → Fun K "is_limit" "is_limit" s_is_limit 338 fd
  d29 : ∃ fd, keepIn K (.ref 345) = true → FunC K "are_limits" "are_limits" s_are_limits 345 fd 344
  t29 : hdB K 344 340 = true
  o29 : (K.lookup 340).isNone = true
  d30 : ∃ fd, keepIn K (.ref 352) = true → FunC K "are_hours" "are_hours" s_are_hours 352 fd 351
  t30 : hdB K 351 347 = true
  o30 : (K.lookup 347).isNone = true
  d31 : ∃ fd, keepIn K (.ref 359) = true → Fun K "is_caller" "is_caller" s_is_caller 359 fd
  d32 : ∃ fd, keepIn K (.ref 366) = true → FunC K "is_group" "is_group" s_is_group 366 fd 365
  t32 : hdB K 365 361 = true
  o32 : (K.lookup 361).isNone = true
  d33 : ∃ fd, keepIn K (.ref 373) = true → Fun K "fault_in_file" "fault_in_file" s_fault_in_file 373 fd
  d34 : ∃ fd, keepIn K (.ref 380) = true → Fun K "check_file" "check_file" s_check_file 380 fd
  d35 : ∃ fd, keepIn K (.ref 387) = true → Fun K "group_of" "group_of" s_group_of 387 fd
  d36 : ∃ fd, keepIn K (.ref 394) = true → Fun K "paths_of" "paths_of" s_paths_of 394 fd
  d37 : ∃ fd, keepIn K (.ref 401) = true → Fun K "rules_of" "rules_of" s_rules_of 401 fd
  d38 : ∃ fd, keepIn K (.ref 408) = true → Fun K "is_let" "is_let" s_is_let 408 fd
  d39 : ∃ fd, keepIn K (.ref 415) = true → Fun K "reason" "reason" s_reason 415 fd
  d40 : ∃ fd, keepIn K (.ref 422) = true → Fun K "_law_well" "_law_well" s_l_well 422 fd
  d41 : ∃ fd, keepIn K (.ref 429) = true → Fun K "_law_pick" "_law_pick" s_l_pick 429 fd
  d42 : ∃ fd, keepIn K (.ref 436) = true → Fun K "_law_one" "_law_one" s_l_one 436 fd
  d43 : ∃ fd, keepIn K (.ref 443) = true → Fun K "_law_signs" "_law_signs" s_l_signs 443 fd
  d44 : ∃ fd, keepIn K (.ref 448) = true → Fun K "_law_alphabet" "_law_alphabet" s_l_alphabet 448 fd
  d45 : ∃ fd, keepIn K (.ref 455) = true → Fun K "_law_body" "_law_body" s_l_body 455 fd
  d46 : ∃ fd, keepIn K (.ref 462) = true → Fun K "_law_fits" "_law_fits" s_l_fits 462 fd
  d47 : ∃ fd, keepIn K (.ref 469) = true → Fun K "_law_meets" "_law_meets" s_l_meets 469 fd
  d48 : ∃ fd, keepIn K (.ref 476) = true → Fun K "_law_some_pattern" "_law_some_pattern" s_l_some_pattern 476 fd
  d49 : ∃ fd, keepIn K (.ref 483) = true → Fun K "_law_some_path" "_law_some_path" s_l_some_path 483 fd
  d50 : ∃ fd, keepIn K (.ref 490) = true → Fun K "_law_some_rows" "_law_some_rows" s_l_some_rows 490 fd
  d51 : ∃ fd, keepIn K (.ref 497) = true → Fun K "_law_decides" "_law_decides" s_l_decides 497 fd
  d52 : ∃ fd, keepIn K (.ref 504) = true → Fun K "_law_bars" "_law_bars" s_l_bars 504 fd
  d53 : ∃ fd, keepIn K (.ref 509) = true → Fun K "_law_some_limits" "_law_some_limits" s_l_some_limits 509 fd
  d54 : ∃ fd, keepIn K (.ref 514) = true → Fun K "_law_some_hours" "_law_some_hours" s_l_some_hours 514 fd
  d55 : ∃ fd, keepIn K (.ref 519) = true → Fun K "_law_some_name" "_law_some_name" s_l_some_name 519 fd
  d56 : ∃ fd, keepIn K (.ref 526) = true → Fun K "_law_some_file" "_law_some_file" s_l_some_file 526 fd
  d57 : ∃ fd, keepIn K (.ref 531) = true → Fun K "_law_group" "_law_group" s_l_group 531 fd
  d58 : ∃ fd, keepIn K (.ref 536) = true → Fun K "_law_some_crawler" "_law_some_crawler" s_l_some_crawler 536 fd
  d59 : ∃ fd, keepIn K (.ref 543) = true → Fun K "_law_one_right" "_law_one_right" s_l_one_right 543 fd
  d60 : ∃ fd, keepIn K (.ref 548) = true → Fun K "_law_right" "_law_right" s_l_right 548 fd
  d61 : ∃ fd, keepIn K (.ref 553) = true → Fun K "law" "law" s_law 553 fd
theorem all_ok {P : Program} {w : World} {K : Frag} {h : Heap} {mg : Str → Option Value} {fa : Addr} (Z : Facts K) (X : K.In h) (G : h.Ns mainGlobals mg) (hfa : mg "law" = some (.ref fa)) (h152 : h.get? 152 = some (tabO #[])) (h159 : h.get? 159 = some (tabO #[])) (h253 : h.get? 253 = some (tabO #[])) (h307 : h.get? 307 = some (tabO #[])) (h340 : h.get? 340 = some (tabO #[])) (h347 : h.get? 347 = some (tabO #[])) (h361 : h.get? 361 = some (tabO #[])) :
    ∃ (fd : FuncData) (cs : List (Addr × Addr)) (sp : Sp), (∀ p ∈ cs, h.get? p.2 = some (tabO #[])) ∧ (∀ p ∈ cs, K.lookup p.2 = none) ∧ (∀ p ∈ cs, CodeHd h p.1 p.2) ∧ (∀ (s : Shared) (u : Value), BindsTo s fd ⟨[u], []⟩ [("_law_script", u)]) ∧
      (∀ (H : Hp) (a : Addr) (ns : List Int), ns.length ≤ 63 → (∀ p ∈ cs, H p.2 = some (.tbl #[])) → SqL K H a (ns.map V.int) → sp [.ref a] H (fun v _ => v = .bl true) fun _ _ _ => False) ∧
      ∀ base : Heap, K.In base → base.Ns mainGlobals mg → (∀ p ∈ cs, TabB base mg p.1 p.2) → FnQ P w K mg base CX0 14 fa fd ["_law_script"] sp := by
  have nf := nameF X G Z.f
  have nn := nameN X G Z.n
  have e := hfa.symm.trans (nf 52 (by decide)).1
  cases e
  obtain ⟨z0, u0⟩ := Z.d0
  have u0 := u0 (nf 0 (by decide)).2
  obtain ⟨z1, u1⟩ := Z.d1
  have u1 := u1 (nf 1 (by decide)).2
  obtain ⟨z2, u2⟩ := Z.d2
  have u2 := u2 (nf 2 (by decide)).2
  obtain ⟨z3, u3⟩ := Z.d3
  have u3 := u3 (nf 3 (by decide)).2
  obtain ⟨z4, u4⟩ := Z.d4
  have u4 := u4 (nf 4 (by decide)).2
  obtain ⟨z5, u5⟩ := Z.d5
  have u5 := u5 (nf 5 (by decide)).2
  obtain ⟨z6, u6⟩ := Z.d6
  have u6 := u6 (nf 6 (by decide)).2
  obtain ⟨z7, u7⟩ := Z.d7
  obtain ⟨z8, u8⟩ := Z.d8
  obtain ⟨z9, u9⟩ := Z.d9
  obtain ⟨z10, u10⟩ := Z.d10
  obtain ⟨z11, u11⟩ := Z.d11
  obtain ⟨z12, u12⟩ := Z.d12
  obtain ⟨z13, u13⟩ := Z.d13
  obtain ⟨z14, u14⟩ := Z.d14
  obtain ⟨z15, u15⟩ := Z.d15
  obtain ⟨z16, u16⟩ := Z.d16
  have u16 := u16 (nf 7 (by decide)).2
  obtain ⟨z17, u17⟩ := Z.d17
  have u17 := u17 (nf 8 (by decide)).2
  obtain ⟨z18, u18⟩ := Z.d18
  have u18 := u18 (nf 9 (by decide)).2
  obtain ⟨z19, u19⟩ := Z.d19
  have u19 := u19 (nf 10 (by decide)).2
  obtain ⟨z20, u20⟩ := Z.d20
  have u20 := u20 (nf 11 (by decide)).2
  obtain ⟨z21, u21⟩ := Z.d21
  have u21 := u21 (nf 12 (by decide)).2
  obtain ⟨z22, u22⟩ := Z.d22
  have u22 := u22 (nf 13 (by decide)).2
  obtain ⟨z23, u23⟩ := Z.d23
  have u23 := u23 (nf 14 (by decide)).2
  obtain ⟨z24, u24⟩ := Z.d24
  have u24 := u24 (nf 15 (by decide)).2
  obtain ⟨z25, u25⟩ := Z.d25
  have u25 := u25 (nf 16 (by decide)).2
  obtain ⟨z26, u26⟩ := Z.d26
  have u26 := u26 (nf 17 (by decide)).2
  obtain ⟨z27, u27⟩ := Z.d27
  have u27 := u27 (nf 18 (by decide)).2
  obtain ⟨z28, u28⟩ := Z.d28
  have u28 := u28 (nf 19 (by decide)).2
  obtain ⟨z29, u29⟩ := Z.d29
  have u29 := u29 (nf 20 (by decide)).2
  obtain ⟨z30, u30⟩ := Z.d30
  have u30 := u30 (nf 21 (by decide)).2
  obtain ⟨z31, u31⟩ := Z.d31
  have u31 := u31 (nf 22 (by decide)).2
  obtain ⟨z32, u32⟩ := Z.d32
  have u32 := u32 (nf 23 (by decide)).2
  obtain ⟨z33, u33⟩ := Z.d33
  have u33 := u33 (nf 24 (by decide)).2
  obtain ⟨z34, u34⟩ := Z.d34
  have u34 := u34 (nf 25 (by decide)).2
  obtain ⟨z35, u35⟩ := Z.d35
  have u35 := u35 (nf 26 (by decide)).2
  obtain ⟨z36, u36⟩ := Z.d36
  have u36 := u36 (nf 27 (by decide)).2
  obtain ⟨z37, u37⟩ := Z.d37
  have u37 := u37 (nf 28 (by decide)).2
  obtain ⟨z38, u38⟩ := Z.d38
  have u38 := u38 (nf 29 (by decide)).2
  obtain ⟨z39, u39⟩ := Z.d39
  have u39 := u39 (nf 30 (by decide)).2
  obtain ⟨z40, u40⟩ := Z.d40
  have u40 := u40 (nf 31 (by decide)).2
  obtain ⟨z41, u41⟩ := Z.d41
  have u41 := u41 (nf 32 (by decide)).2
  obtain ⟨z42, u42⟩ := Z.d42
  have u42 := u42 (nf 33 (by decide)).2
  obtain ⟨z43, u43⟩ := Z.d43
  have u43 := u43 (nf 34 (by decide)).2
  obtain ⟨z44, u44⟩ := Z.d44
  have u44 := u44 (nf 35 (by decide)).2
  obtain ⟨z45, u45⟩ := Z.d45
  have u45 := u45 (nf 36 (by decide)).2
  obtain ⟨z46, u46⟩ := Z.d46
  have u46 := u46 (nf 37 (by decide)).2
  obtain ⟨z47, u47⟩ := Z.d47
  have u47 := u47 (nf 38 (by decide)).2
  obtain ⟨z48, u48⟩ := Z.d48
  have u48 := u48 (nf 39 (by decide)).2
  obtain ⟨z49, u49⟩ := Z.d49
  have u49 := u49 (nf 40 (by decide)).2
  obtain ⟨z50, u50⟩ := Z.d50
  have u50 := u50 (nf 41 (by decide)).2
  obtain ⟨z51, u51⟩ := Z.d51
  have u51 := u51 (nf 42 (by decide)).2
  obtain ⟨z52, u52⟩ := Z.d52
  have u52 := u52 (nf 43 (by decide)).2
  obtain ⟨z53, u53⟩ := Z.d53
  have u53 := u53 (nf 44 (by decide)).2
  obtain ⟨z54, u54⟩ := Z.d54
  have u54 := u54 (nf 45 (by decide)).2
  obtain ⟨z55, u55⟩ := Z.d55
  have u55 := u55 (nf 46 (by decide)).2
  obtain ⟨z56, u56⟩ := Z.d56
  have u56 := u56 (nf 47 (by decide)).2
  obtain ⟨z57, u57⟩ := Z.d57
  have u57 := u57 (nf 48 (by decide)).2
  obtain ⟨z58, u58⟩ := Z.d58
  have u58 := u58 (nf 49 (by decide)).2
  obtain ⟨z59, u59⟩ := Z.d59
  have u59 := u59 (nf 50 (by decide)).2
  obtain ⟨z60, u60⟩ := Z.d60
  have u60 := u60 (nf 51 (by decide)).2
  obtain ⟨z61, u61⟩ := Z.d61
  have u61 := u61 (nf 52 (by decide)).2
  have qMachine := Z.cMachine
  unfold chkMachine at qMachine
  simp only [Bool.and_eq_true, decide_eq_true_eq] at qMachine
  obtain ⟨r1, r2, r3, r4, r5, r6, r7, r8⟩ := qMachine
  have u7 := u7 (methMachine Z.mMachine 0 (by decide)).kp
  have u8 := u8 (methMachine Z.mMachine 1 (by decide)).kp
  have u9 := u9 (methMachine Z.mMachine 2 (by decide)).kp
  have u10 := u10 (methMachine Z.mMachine 3 (by decide)).kp
  have u11 := u11 (methMachine Z.mMachine 4 (by decide)).kp
  have u12 := u12 (methMachine Z.mMachine 5 (by decide)).kp
  have u13 := u13 (methMachine Z.mMachine 6 (by decide)).kp
  have u14 := u14 (methMachine Z.mMachine 7 (by decide)).kp
  have u15 := u15 (methMachine Z.mMachine 8 (by decide)).kp
  obtain ⟨w0, y0⟩ := str_of Z.k0
  obtain ⟨w1, y1⟩ := str_of Z.k1
  obtain ⟨w2, y2⟩ := int_of Z.k2
  obtain ⟨w3, y3⟩ := int_of Z.k3
  obtain ⟨w4, y4⟩ := int_of Z.k4
  obtain ⟨w5, y5⟩ := int_of Z.k5
  obtain ⟨w6, y6⟩ := int_of Z.k6
  obtain ⟨w7, y7⟩ := int_of Z.k7
  obtain ⟨w8, y8⟩ := int_of Z.k8
  obtain ⟨w9, y9⟩ := str_of Z.k9
  obtain ⟨w10, y10⟩ := int_of Z.k10
  obtain ⟨w11, y11⟩ := int_of Z.k11
  let T : D K mg :=
   {
    f_is_whole := 136,
    d_is_whole := z0,
    U_is_whole := u0,
    g_is_whole := (nf 0 (by decide)).1,
    f_is_between := 143,
    d_is_between := z1,
    U_is_between := u1,
    g_is_between := (nf 1 (by decide)).1,
    f_is_tuple := 150,
    d_is_tuple := z2,
    U_is_tuple := u2,
    g_is_tuple := (nf 2 (by decide)).1,
    f_is_name := 157,
    d_is_name := z3,
    c_is_name := 156,
    P_is_name := 152,
    V_is_name := u3,
    g_is_name := (nf 3 (by decide)).1,
    f_is_path := 164,
    d_is_path := z4,
    c_is_path := 163,
    P_is_path := 159,
    V_is_path := u4,
    g_is_path := (nf 4 (by decide)).1,
    f_check_name := 171,
    d_check_name := z5,
    U_check_name := u5,
    g_check_name := (nf 5 (by decide)).1,
    f_check_path := 178,
    d_check_path := z6,
    U_check_path := u6,
    g_check_path := (nf 6 (by decide)).1,
    f_init := 192,
    d_init := z7,
    U_init := u7,
    f__take := 199,
    d__take := z8,
    U__take := u8,
    f__telling_signs := 204,
    d__telling_signs := z9,
    U__telling_signs := u9,
    f__closed := 211,
    d__closed := z10,
    U__closed := u10,
    f_step := 218,
    d_step := z11,
    U_step := u11,
    f_begun := 223,
    d_begun := z12,
    U_begun := u12,
    f_behind := 230,
    d_behind := z13,
    U_behind := u13,
    f_places_of := 237,
    d_places_of := z14,
    U_places_of := u14,
    f_standing_of := 244,
    d_standing_of := z15,
    U_standing_of := u15,
    f_is_pattern := 258,
    d_is_pattern := z16,
    c_is_pattern := 257,
    P_is_pattern := 253,
    V_is_pattern := u16,
    g_is_pattern := (nf 7 (by decide)).1,
    f_check_pattern := 265,
    d_check_pattern := z17,
    U_check_pattern := u17,
    g_check_pattern := (nf 8 (by decide)).1,
    f_body_of := 272,
    d_body_of := z18,
    U_body_of := u18,
    g_body_of := (nf 9 (by decide)).1,
    f_is_path_row := 279,
    d_is_path_row := z19,
    U_is_path_row := u19,
    g_is_path_row := (nf 10 (by decide)).1,
    f_fault_in_paths := 286,
    d_fault_in_paths := z20,
    U_fault_in_paths := u20,
    g_fault_in_paths := (nf 11 (by decide)).1,
    f_are_paths := 293,
    d_are_paths := z21,
    U_are_paths := u21,
    g_are_paths := (nf 12 (by decide)).1,
    f_check_paths := 300,
    d_check_paths := z22,
    U_check_paths := u22,
    g_check_paths := (nf 13 (by decide)).1,
    f_machine_of := 305,
    d_machine_of := z23,
    U_machine_of := u23,
    g_machine_of := (nf 14 (by decide)).1,
    f_ranked := 310,
    d_ranked := z24,
    c_ranked := 309,
    P_ranked := 307,
    V_ranked := u24,
    g_ranked := (nf 15 (by decide)).1,
    f_decided := 317,
    d_decided := z25,
    U_decided := u25,
    g_decided := (nf 16 (by decide)).1,
    f_deciding := 324,
    d_deciding := z26,
    U_deciding := u26,
    g_deciding := (nf 17 (by decide)).1,
    f_is_let_by := 331,
    d_is_let_by := z27,
    U_is_let_by := u27,
    g_is_let_by := (nf 18 (by decide)).1,
    f_is_limit := 338,
    d_is_limit := z28,
    U_is_limit := u28,
    g_is_limit := (nf 19 (by decide)).1,
    f_are_limits := 345,
    d_are_limits := z29,
    c_are_limits := 344,
    P_are_limits := 340,
    V_are_limits := u29,
    g_are_limits := (nf 20 (by decide)).1,
    f_are_hours := 352,
    d_are_hours := z30,
    c_are_hours := 351,
    P_are_hours := 347,
    V_are_hours := u30,
    g_are_hours := (nf 21 (by decide)).1,
    f_is_caller := 359,
    d_is_caller := z31,
    U_is_caller := u31,
    g_is_caller := (nf 22 (by decide)).1,
    f_is_group := 366,
    d_is_group := z32,
    c_is_group := 365,
    P_is_group := 361,
    V_is_group := u32,
    g_is_group := (nf 23 (by decide)).1,
    f_fault_in_file := 373,
    d_fault_in_file := z33,
    U_fault_in_file := u33,
    g_fault_in_file := (nf 24 (by decide)).1,
    f_check_file := 380,
    d_check_file := z34,
    U_check_file := u34,
    g_check_file := (nf 25 (by decide)).1,
    f_group_of := 387,
    d_group_of := z35,
    U_group_of := u35,
    g_group_of := (nf 26 (by decide)).1,
    f_paths_of := 394,
    d_paths_of := z36,
    U_paths_of := u36,
    g_paths_of := (nf 27 (by decide)).1,
    f_rules_of := 401,
    d_rules_of := z37,
    U_rules_of := u37,
    g_rules_of := (nf 28 (by decide)).1,
    f_is_let := 408,
    d_is_let := z38,
    U_is_let := u38,
    g_is_let := (nf 29 (by decide)).1,
    f_reason := 415,
    d_reason := z39,
    U_reason := u39,
    g_reason := (nf 30 (by decide)).1,
    f_l_well := 422,
    d_l_well := z40,
    U_l_well := u40,
    g_l_well := (nf 31 (by decide)).1,
    f_l_pick := 429,
    d_l_pick := z41,
    U_l_pick := u41,
    g_l_pick := (nf 32 (by decide)).1,
    f_l_one := 436,
    d_l_one := z42,
    U_l_one := u42,
    g_l_one := (nf 33 (by decide)).1,
    f_l_signs := 443,
    d_l_signs := z43,
    U_l_signs := u43,
    g_l_signs := (nf 34 (by decide)).1,
    f_l_alphabet := 448,
    d_l_alphabet := z44,
    U_l_alphabet := u44,
    g_l_alphabet := (nf 35 (by decide)).1,
    f_l_body := 455,
    d_l_body := z45,
    U_l_body := u45,
    g_l_body := (nf 36 (by decide)).1,
    f_l_fits := 462,
    d_l_fits := z46,
    U_l_fits := u46,
    g_l_fits := (nf 37 (by decide)).1,
    f_l_meets := 469,
    d_l_meets := z47,
    U_l_meets := u47,
    g_l_meets := (nf 38 (by decide)).1,
    f_l_some_pattern := 476,
    d_l_some_pattern := z48,
    U_l_some_pattern := u48,
    g_l_some_pattern := (nf 39 (by decide)).1,
    f_l_some_path := 483,
    d_l_some_path := z49,
    U_l_some_path := u49,
    g_l_some_path := (nf 40 (by decide)).1,
    f_l_some_rows := 490,
    d_l_some_rows := z50,
    U_l_some_rows := u50,
    g_l_some_rows := (nf 41 (by decide)).1,
    f_l_decides := 497,
    d_l_decides := z51,
    U_l_decides := u51,
    g_l_decides := (nf 42 (by decide)).1,
    f_l_bars := 504,
    d_l_bars := z52,
    U_l_bars := u52,
    g_l_bars := (nf 43 (by decide)).1,
    f_l_some_limits := 509,
    d_l_some_limits := z53,
    U_l_some_limits := u53,
    g_l_some_limits := (nf 44 (by decide)).1,
    f_l_some_hours := 514,
    d_l_some_hours := z54,
    U_l_some_hours := u54,
    g_l_some_hours := (nf 45 (by decide)).1,
    f_l_some_name := 519,
    d_l_some_name := z55,
    U_l_some_name := u55,
    g_l_some_name := (nf 46 (by decide)).1,
    f_l_some_file := 526,
    d_l_some_file := z56,
    U_l_some_file := u56,
    g_l_some_file := (nf 47 (by decide)).1,
    f_l_group := 531,
    d_l_group := z57,
    U_l_group := u57,
    g_l_group := (nf 48 (by decide)).1,
    f_l_some_crawler := 536,
    d_l_some_crawler := z58,
    U_l_some_crawler := u58,
    g_l_some_crawler := (nf 49 (by decide)).1,
    f_l_one_right := 543,
    d_l_one_right := z59,
    U_l_one_right := u59,
    g_l_one_right := (nf 50 (by decide)).1,
    f_l_right := 548,
    d_l_right := z60,
    U_l_right := u60,
    g_l_right := (nf 51 (by decide)).1,
    f_law := 553,
    d_law := z61,
    U_law := u61,
    g_law := (nf 52 (by decide)).1,
    C_Machine := 247,
    cl_Machine := ⟨r1, r2, r3, r4⟩,
    g_Machine := mg_of X G r5,
    mk_Machine := ⟨r6, r7, (methMachine Z.mMachine 0 (by decide)).fn, r8⟩,
    n_bodies := noAMachine Z.aMachine 0 (by decide),
    n_ends := noAMachine Z.aMachine 1 (by decide),
    n_held := noAMachine Z.aMachine 2 (by decide),
    n_moves := noAMachine Z.aMachine 3 (by decide),
    n_signs := noAMachine Z.aMachine 4 (by decide),
    n_stars := noAMachine Z.aMachine 5 (by decide),
    n_starts := noAMachine Z.aMachine 6 (by decide),
    M__take := methMachine Z.mMachine 1 (by decide),
    M__telling_signs := methMachine Z.mMachine 2 (by decide),
    M__closed := methMachine Z.mMachine 3 (by decide),
    M_step := methMachine Z.mMachine 4 (by decide),
    M_begun := methMachine Z.mMachine 5 (by decide),
    M_behind := methMachine Z.mMachine 6 (by decide),
    M_places_of := methMachine Z.mMachine 7 (by decide),
    M_standing_of := methMachine Z.mMachine 8 (by decide),
    t_LETTERS := w0,
    g_LETTERS := mg_of X G y0,
    t_SIGNS := w1,
    g_SIGNS := mg_of X G y1,
    t_LONGEST_NAME := w2,
    g_LONGEST_NAME := mg_of X G y2,
    t_LONGEST_PATTERN := w3,
    g_LONGEST_PATTERN := mg_of X G y3,
    t_MOST_STARS := w4,
    g_MOST_STARS := mg_of X G y4,
    t_MOST_PATHS := w5,
    g_MOST_PATHS := mg_of X G y5,
    t_MOST_ASKS := w6,
    g_MOST_ASKS := mg_of X G y6,
    t_WIDEST := w7,
    g_WIDEST := mg_of X G y7,
    t_MOST_PAIRS := w8,
    g_MOST_PAIRS := mg_of X G y8,
    t_ANYONE := w9,
    g_ANYONE := mg_of X G y9,
    t_MOST_GROUPS := w10,
    g_MOST_GROUPS := mg_of X G y10,
    t_MOST_NAMES := w11,
    g_MOST_NAMES := mg_of X G y11,
    abs := nn 0 (by decide),
    all := nn 1 (by decide),
    bool := nn 2 (by decide),
    divmod := nn 3 (by decide),
    enumerate := nn 4 (by decide),
    int := nn 5 (by decide),
    isinstance := nn 6 (by decide),
    len := nn 7 (by decide),
    list := nn 8 (by decide),
    max := nn 9 (by decide),
    min := nn 10 (by decide),
    range := nn 11 (by decide),
    repr := nn 12 (by decide),
    sorted := nn 13 (by decide),
    str := nn 14 (by decide),
    sum := nn 15 (by decide),
    tuple := nn 16 (by decide) }
  refine ⟨T.d_law, [(156, 152), (163, 159), (257, 253), (309, 307), (344, 340), (351, 347), (365, 361)], spLaw T, ?_, ?_, ?_, ?_, ?_, fun base _ _ TB => ok_law T ⟨TB (156, 152) (by simp), TB (163, 159) (by simp), TB (257, 253) (by simp), TB (309, 307) (by simp), TB (365, 361) (by simp), TB (344, 340) (by simp), TB (351, 347) (by simp), (by show (307 : Addr) ≠ 159; decide), (by show (307 : Addr) ≠ 253; decide), (by show (307 : Addr) ≠ 152; decide), (by show (307 : Addr) ≠ 361; decide), (by show (307 : Addr) ≠ 340; decide), (by show (307 : Addr) ≠ 347; decide)⟩ (sysM_of Z.s)⟩
  · intro p hp
    simp only [List.mem_cons, List.not_mem_nil, or_false] at hp
    rcases hp with rfl | rfl | rfl | rfl | rfl | rfl | rfl
    · exact h152
    · exact h159
    · exact h253
    · exact h307
    · exact h340
    · exact h347
    · exact h361
  · intro p hp
    simp only [List.mem_cons, List.not_mem_nil, or_false] at hp
    rcases hp with rfl | rfl | rfl | rfl | rfl | rfl | rfl
    · exact Option.isNone_iff_eq_none.mp Z.o3
    · exact Option.isNone_iff_eq_none.mp Z.o4
    · exact Option.isNone_iff_eq_none.mp Z.o16
    · exact Option.isNone_iff_eq_none.mp Z.o24
    · exact Option.isNone_iff_eq_none.mp Z.o29
    · exact Option.isNone_iff_eq_none.mp Z.o30
    · exact Option.isNone_iff_eq_none.mp Z.o32
  · intro p hp
    simp only [List.mem_cons, List.not_mem_nil, or_false] at hp
    rcases hp with rfl | rfl | rfl | rfl | rfl | rfl | rfl
    · exact hdB_ok X (by decide) Z.t3
    · exact hdB_ok X (by decide) Z.t4
    · exact hdB_ok X (by decide) Z.t16
    · exact hdB_ok X (by decide) Z.t24
    · exact hdB_ok X (by decide) Z.t29
    · exact hdB_ok X (by decide) Z.t30
    · exact hdB_ok X (by decide) Z.t32
  · obtain ⟨oc, od, kV, doc, pm, an, cdv, ct, osl, e, _⟩ := T.U_law.ex
    rw [e]
    exact fun s u => .of_eq rfl
  · intro H a ns hl hT hS
    refine ⟨a, ns, rfl, hS, hl, fun q hq => ?_, fun _ => rfl⟩
    simp only [tabs, List.mem_cons, List.not_mem_nil, or_false] at hq
    rcases hq with rfl | rfl | rfl | rfl | rfl | rfl | rfl
    · exact hT (156, 152) (by simp)
    · exact hT (163, 159) (by simp)
    · exact hT (257, 253) (by simp)
    · exact hT (309, 307) (by simp)
    · exact hT (365, 361) (by simp)
    · exact hT (344, 340) (by simp)
    · exact hT (351, 347) (by simp)
end KP

set_option Elab.async false
set_option maxRecDepth 100000
set_option maxHeartbeats 8000000
set_option linter.all false
namespace KP
open PySem PySem.Spec PyProof.Rows L2 Gr PySem.W
/-! the head: beside the written part the table of the modules is looked at, and the tables of the code objects that make generators -/
noncomputable def sysO (P : Params) : Obj := ((boot_heap P).get? sysModules).getD default
noncomputable def withSys (K : Params → Frag) (P : Params) : Frag := (sysModules, sysO P) :: K P
theorem lookup_withSys {K : Params → Frag} {P : Params} (b : Addr) (h : b ≠ sysModules) : (withSys K P).lookup b = (K P).lookup b := by
  unfold withSys
  rw [List.lookup_cons, beq_eq_false_iff_ne.mpr h]
noncomputable def withTabs (K : Params → Frag) (P : Params) : Frag := (152, tabO #[]) :: (159, tabO #[]) :: (253, tabO #[]) :: (307, tabO #[]) :: (340, tabO #[]) :: (347, tabO #[]) :: (361, tabO #[]) :: withSys K P
theorem tabE {K : Params → Frag} {as : List Addr} (e : ∀ P, as = (K P).map (·.1)) (P : Params) : 152 :: 159 :: 253 :: 307 :: 340 :: 347 :: 361 :: sysModules :: as = (withTabs K P).map (·.1) := congrArg (fun l => 152 :: 159 :: 253 :: 307 :: 340 :: 347 :: 361 :: sysModules :: l) (e P)
theorem tabs_in {K : Params → Frag} {P : Params} {h : Heap} (X : (withTabs K P).In h) (o152 : ((withSys K P).lookup 152).isNone = true) (o159 : ((withSys K P).lookup 159).isNone = true) (o253 : ((withSys K P).lookup 253).isNone = true) (o307 : ((withSys K P).lookup 307).isNone = true) (o340 : ((withSys K P).lookup 340).isNone = true) (o347 : ((withSys K P).lookup 347).isNone = true) (o361 : ((withSys K P).lookup 361).isNone = true) : (withSys K P).In h ∧ h.get? 152 = some (tabO #[]) ∧ h.get? 159 = some (tabO #[]) ∧ h.get? 253 = some (tabO #[]) ∧ h.get? 307 = some (tabO #[]) ∧ h.get? 340 = some (tabO #[]) ∧ h.get? 347 = some (tabO #[]) ∧ h.get? 361 = some (tabO #[]) := by
  refine ⟨fun b o e => X b o ?_, X 152 _ (by rfl), X 159 _ (by rfl), X 253 _ (by rfl), X 307 _ (by rfl), X 340 _ (by rfl), X 347 _ (by rfl), X 361 _ (by rfl)⟩
  have n152 : b ≠ 152 := fun q => by
    rw [q, Option.isNone_iff_eq_none.mp o152] at e
    cases e
  have n159 : b ≠ 159 := fun q => by
    rw [q, Option.isNone_iff_eq_none.mp o159] at e
    cases e
  have n253 : b ≠ 253 := fun q => by
    rw [q, Option.isNone_iff_eq_none.mp o253] at e
    cases e
  have n307 : b ≠ 307 := fun q => by
    rw [q, Option.isNone_iff_eq_none.mp o307] at e
    cases e
  have n340 : b ≠ 340 := fun q => by
    rw [q, Option.isNone_iff_eq_none.mp o340] at e
    cases e
  have n347 : b ≠ 347 := fun q => by
    rw [q, Option.isNone_iff_eq_none.mp o347] at e
    cases e
  have n361 : b ≠ 361 := fun q => by
    rw [q, Option.isNone_iff_eq_none.mp o361] at e
    cases e
  unfold withTabs
  rw [List.lookup_cons, beq_eq_false_iff_ne.mpr n152]
  rw [List.lookup_cons, beq_eq_false_iff_ne.mpr n159]
  rw [List.lookup_cons, beq_eq_false_iff_ne.mpr n253]
  rw [List.lookup_cons, beq_eq_false_iff_ne.mpr n307]
  rw [List.lookup_cons, beq_eq_false_iff_ne.mpr n340]
  rw [List.lookup_cons, beq_eq_false_iff_ne.mpr n347]
  rw [List.lookup_cons, beq_eq_false_iff_ne.mpr n361]
  exact e
end KP
open PySem PySem.W PyProof.Rows
local macro_rules
  | `(tactic| o_head ($_ $K $as $p $_)) => `(tactic| o_head PySem.W.kHook (KP.withTabs $K) (152 :: 159 :: 253 :: 307 :: 340 :: 347 :: 361 :: PySem.sysModules :: $as) (KP.tabE (K := $K) (as := $as) $p))
set_option maxHeartbeats 0 in
theorem PySem.Challenge.cw_gentlerounds_k22_whole_groups_and_reason_holds : PySem.Challenge.rw_gentlerounds_k22_whole_groups_and_reason.Holds := by
  w_on; o_law; k_head; (case hw => w_witness2)
  k_fill
  refine Gr.walk_ofQT (l := PySem.Challenge.rw_gentlerounds_k22_whole_groups_and_reason) (n := 63) (k := 14) (x := "_law_script") (K := KP.withSys _) rfl (by decide) rfl ⟨rfl, by decide, by decide⟩ (fun w h Y => (KP.tabs_in (PySem.W.kIn_of Y) (by kernel_rfl) (by kernel_rfl) (by kernel_rfl) (by kernel_rfl) (by kernel_rfl) (by kernel_rfl) (by kernel_rfl)).1) ?F
  case F => as_aux_lemma =>
    intro w mg fa h Y KX G hmg
    have Q := KP.tabs_in (PySem.W.kIn_of Y) (by kernel_rfl) (by kernel_rfl) (by kernel_rfl) (by kernel_rfl) (by kernel_rfl) (by kernel_rfl) (by kernel_rfl)
    refine' KP.all_ok (KP.Facts.mk ?n ?zf ?s ?cMachine ?aMachine ?mMachine ?k0 ?k1 ?k2 ?k3 ?k4 ?k5 ?k6 ?k7 ?k8 ?k9 ?k10 ?k11 ?d0 ?d1 ?d2 ?d3 ?t3 ?o3 ?d4 ?t4 ?o4 ?d5 ?d6 ?d7 ?d8 ?d9 ?d10 ?d11 ?d12 ?d13 ?d14 ?d15 ?d16 ?t16 ?o16 ?d17 ?d18 ?d19 ?d20 ?d21 ?d22 ?d23 ?d24 ?t24 ?o24 ?d25 ?d26 ?d27 ?d28 ?d29 ?t29 ?o29 ?d30 ?t30 ?o30 ?d31 ?d32 ?t32 ?o32 ?d33 ?d34 ?d35 ?d36 ?d37 ?d38 ?d39 ?d40 ?d41 ?d42 ?d43 ?d44 ?d45 ?d46 ?d47 ?d48 ?d49 ?d50 ?d51 ?d52 ?d53 ?d54 ?d55 ?d56 ?d57 ?d58 ?d59 ?d60 ?d61) KX G hmg Q.2.1 Q.2.2.1 Q.2.2.2.1 Q.2.2.2.2.1 Q.2.2.2.2.2.1 Q.2.2.2.2.2.2.1 Q.2.2.2.2.2.2.2
    (case n => as_aux_lemma => kernel_rfl)
    (case zf => as_aux_lemma => kernel_rfl)
    (case s => as_aux_lemma => kernel_rfl)
    (case cMachine => as_aux_lemma => kernel_rfl)
    (case aMachine => as_aux_lemma => kernel_rfl)
    (case mMachine => as_aux_lemma => kernel_rfl)
    (case k0 => as_aux_lemma => kernel_rfl)
    (case k1 => as_aux_lemma => kernel_rfl)
    (case k2 => as_aux_lemma => kernel_rfl)
    (case k3 => as_aux_lemma => kernel_rfl)
    (case k4 => as_aux_lemma => kernel_rfl)
    (case k5 => as_aux_lemma => kernel_rfl)
    (case k6 => as_aux_lemma => kernel_rfl)
    (case k7 => as_aux_lemma => kernel_rfl)
    (case k8 => as_aux_lemma => kernel_rfl)
    (case k9 => as_aux_lemma => kernel_rfl)
    (case k10 => as_aux_lemma => kernel_rfl)
    (case k11 => as_aux_lemma => kernel_rfl)
    (case d0 => (refine' KP.fun_mkS (f := 136) KP.lookup_withSys (by decide) ?l ?c; (case l => k_is); (case c => kernel_rfl)))
    (case d1 => (refine' KP.fun_mkS (f := 143) KP.lookup_withSys (by decide) ?l ?c; (case l => k_is); (case c => kernel_rfl)))
    (case d2 => (refine' KP.fun_mkS (f := 150) KP.lookup_withSys (by decide) ?l ?c; (case l => k_is); (case c => kernel_rfl)))
    (case d3 => (refine' KP.fun_mkC (f := 157) KP.lookup_withSys (by decide) ?l ?c; (case l => k_is); (case c => kernel_rfl)))
    (case t3 => as_aux_lemma => kernel_rfl)
    (case o3 => as_aux_lemma => kernel_rfl)
    (case d4 => (refine' KP.fun_mkC (f := 164) KP.lookup_withSys (by decide) ?l ?c; (case l => k_is); (case c => kernel_rfl)))
    (case t4 => as_aux_lemma => kernel_rfl)
    (case o4 => as_aux_lemma => kernel_rfl)
    (case d5 => (refine' KP.fun_mkS (f := 171) KP.lookup_withSys (by decide) ?l ?c; (case l => k_is); (case c => kernel_rfl)))
    (case d6 => (refine' KP.fun_mkS (f := 178) KP.lookup_withSys (by decide) ?l ?c; (case l => k_is); (case c => kernel_rfl)))
    (case d7 => (refine' KP.fun_mkS (f := 192) KP.lookup_withSys (by decide) ?l ?c; (case l => k_is); (case c => kernel_rfl)))
    (case d8 => (refine' KP.fun_mkS (f := 199) KP.lookup_withSys (by decide) ?l ?c; (case l => k_is); (case c => kernel_rfl)))
    (case d9 => (refine' KP.fun_mkS (f := 204) KP.lookup_withSys (by decide) ?l ?c; (case l => k_is); (case c => kernel_rfl)))
    (case d10 => (refine' KP.fun_mkS (f := 211) KP.lookup_withSys (by decide) ?l ?c; (case l => k_is); (case c => kernel_rfl)))
    (case d11 => (refine' KP.fun_mkS (f := 218) KP.lookup_withSys (by decide) ?l ?c; (case l => k_is); (case c => kernel_rfl)))
    (case d12 => (refine' KP.fun_mkS (f := 223) KP.lookup_withSys (by decide) ?l ?c; (case l => k_is); (case c => kernel_rfl)))
    (case d13 => (refine' KP.fun_mkS (f := 230) KP.lookup_withSys (by decide) ?l ?c; (case l => k_is); (case c => kernel_rfl)))
    (case d14 => (refine' KP.fun_mkS (f := 237) KP.lookup_withSys (by decide) ?l ?c; (case l => k_is); (case c => kernel_rfl)))
    (case d15 => (refine' KP.fun_mkS (f := 244) KP.lookup_withSys (by decide) ?l ?c; (case l => k_is); (case c => kernel_rfl)))
    (case d16 => (refine' KP.fun_mkC (f := 258) KP.lookup_withSys (by decide) ?l ?c; (case l => k_is); (case c => kernel_rfl)))
    (case t16 => as_aux_lemma => kernel_rfl)
    (case o16 => as_aux_lemma => kernel_rfl)
    (case d17 => (refine' KP.fun_mkS (f := 265) KP.lookup_withSys (by decide) ?l ?c; (case l => k_is); (case c => kernel_rfl)))
    (case d18 => (refine' KP.fun_mkS (f := 272) KP.lookup_withSys (by decide) ?l ?c; (case l => k_is); (case c => kernel_rfl)))
    (case d19 => (refine' KP.fun_mkS (f := 279) KP.lookup_withSys (by decide) ?l ?c; (case l => k_is); (case c => kernel_rfl)))
    (case d20 => (refine' KP.fun_mkS (f := 286) KP.lookup_withSys (by decide) ?l ?c; (case l => k_is); (case c => kernel_rfl)))
    (case d21 => (refine' KP.fun_mkS (f := 293) KP.lookup_withSys (by decide) ?l ?c; (case l => k_is); (case c => kernel_rfl)))
    (case d22 => (refine' KP.fun_mkS (f := 300) KP.lookup_withSys (by decide) ?l ?c; (case l => k_is); (case c => kernel_rfl)))
    (case d23 => (refine' KP.fun_mkS (f := 305) KP.lookup_withSys (by decide) ?l ?c; (case l => k_is); (case c => kernel_rfl)))
    (case d24 => (refine' KP.fun_mkC (f := 310) KP.lookup_withSys (by decide) ?l ?c; (case l => k_is); (case c => kernel_rfl)))
    (case t24 => as_aux_lemma => kernel_rfl)
    (case o24 => as_aux_lemma => kernel_rfl)
    (case d25 => (refine' KP.fun_mkS (f := 317) KP.lookup_withSys (by decide) ?l ?c; (case l => k_is); (case c => kernel_rfl)))
    (case d26 => (refine' KP.fun_mkS (f := 324) KP.lookup_withSys (by decide) ?l ?c; (case l => k_is); (case c => kernel_rfl)))
    (case d27 => (refine' KP.fun_mkS (f := 331) KP.lookup_withSys (by decide) ?l ?c; (case l => k_is); (case c => kernel_rfl)))
    (case d28 => (refine' KP.fun_mkS (f := 338) KP.lookup_withSys (by decide) ?l ?c; (case l => k_is); (case c => kernel_rfl)))
    (case d29 => (refine' KP.fun_mkC (f := 345) KP.lookup_withSys (by decide) ?l ?c; (case l => k_is); (case c => kernel_rfl)))
    (case t29 => as_aux_lemma => kernel_rfl)
    (case o29 => as_aux_lemma => kernel_rfl)
    (case d30 => (refine' KP.fun_mkC (f := 352) KP.lookup_withSys (by decide) ?l ?c; (case l => k_is); (case c => kernel_rfl)))
    (case t30 => as_aux_lemma => kernel_rfl)
    (case o30 => as_aux_lemma => kernel_rfl)
    (case d31 => (refine' KP.fun_mkS (f := 359) KP.lookup_withSys (by decide) ?l ?c; (case l => k_is); (case c => kernel_rfl)))
    (case d32 => (refine' KP.fun_mkC (f := 366) KP.lookup_withSys (by decide) ?l ?c; (case l => k_is); (case c => kernel_rfl)))
    (case t32 => as_aux_lemma => kernel_rfl)
    (case o32 => as_aux_lemma => kernel_rfl)
    (case d33 => (refine' KP.fun_mkS (f := 373) KP.lookup_withSys (by decide) ?l ?c; (case l => k_is); (case c => kernel_rfl)))
    (case d34 => (refine' KP.fun_mkS (f := 380) KP.lookup_withSys (by decide) ?l ?c; (case l => k_is); (case c => kernel_rfl)))
    (case d35 => (refine' KP.fun_mkS (f := 387) KP.lookup_withSys (by decide) ?l ?c; (case l => k_is); (case c => kernel_rfl)))
    (case d36 => (refine' KP.fun_mkS (f := 394) KP.lookup_withSys (by decide) ?l ?c; (case l => k_is); (case c => kernel_rfl)))
    (case d37 => (refine' KP.fun_mkS (f := 401) KP.lookup_withSys (by decide) ?l ?c; (case l => k_is); (case c => kernel_rfl)))
    (case d38 => (refine' KP.fun_mkS (f := 408) KP.lookup_withSys (by decide) ?l ?c; (case l => k_is); (case c => kernel_rfl)))
    (case d39 => (refine' KP.fun_mkS (f := 415) KP.lookup_withSys (by decide) ?l ?c; (case l => k_is); (case c => kernel_rfl)))
    (case d40 => (refine' KP.fun_mkS (f := 422) KP.lookup_withSys (by decide) ?l ?c; (case l => k_is); (case c => kernel_rfl)))
    (case d41 => (refine' KP.fun_mkS (f := 429) KP.lookup_withSys (by decide) ?l ?c; (case l => k_is); (case c => kernel_rfl)))
    (case d42 => (refine' KP.fun_mkS (f := 436) KP.lookup_withSys (by decide) ?l ?c; (case l => k_is); (case c => kernel_rfl)))
    (case d43 => (refine' KP.fun_mkS (f := 443) KP.lookup_withSys (by decide) ?l ?c; (case l => k_is); (case c => kernel_rfl)))
    (case d44 => (refine' KP.fun_mkS (f := 448) KP.lookup_withSys (by decide) ?l ?c; (case l => k_is); (case c => kernel_rfl)))
    (case d45 => (refine' KP.fun_mkS (f := 455) KP.lookup_withSys (by decide) ?l ?c; (case l => k_is); (case c => kernel_rfl)))
    (case d46 => (refine' KP.fun_mkS (f := 462) KP.lookup_withSys (by decide) ?l ?c; (case l => k_is); (case c => kernel_rfl)))
    (case d47 => (refine' KP.fun_mkS (f := 469) KP.lookup_withSys (by decide) ?l ?c; (case l => k_is); (case c => kernel_rfl)))
    (case d48 => (refine' KP.fun_mkS (f := 476) KP.lookup_withSys (by decide) ?l ?c; (case l => k_is); (case c => kernel_rfl)))
    (case d49 => (refine' KP.fun_mkS (f := 483) KP.lookup_withSys (by decide) ?l ?c; (case l => k_is); (case c => kernel_rfl)))
    (case d50 => (refine' KP.fun_mkS (f := 490) KP.lookup_withSys (by decide) ?l ?c; (case l => k_is); (case c => kernel_rfl)))
    (case d51 => (refine' KP.fun_mkS (f := 497) KP.lookup_withSys (by decide) ?l ?c; (case l => k_is); (case c => kernel_rfl)))
    (case d52 => (refine' KP.fun_mkS (f := 504) KP.lookup_withSys (by decide) ?l ?c; (case l => k_is); (case c => kernel_rfl)))
    (case d53 => (refine' KP.fun_mkS (f := 509) KP.lookup_withSys (by decide) ?l ?c; (case l => k_is); (case c => kernel_rfl)))
    (case d54 => (refine' KP.fun_mkS (f := 514) KP.lookup_withSys (by decide) ?l ?c; (case l => k_is); (case c => kernel_rfl)))
    (case d55 => (refine' KP.fun_mkS (f := 519) KP.lookup_withSys (by decide) ?l ?c; (case l => k_is); (case c => kernel_rfl)))
    (case d56 => (refine' KP.fun_mkS (f := 526) KP.lookup_withSys (by decide) ?l ?c; (case l => k_is); (case c => kernel_rfl)))
    (case d57 => (refine' KP.fun_mkS (f := 531) KP.lookup_withSys (by decide) ?l ?c; (case l => k_is); (case c => kernel_rfl)))
    (case d58 => (refine' KP.fun_mkS (f := 536) KP.lookup_withSys (by decide) ?l ?c; (case l => k_is); (case c => kernel_rfl)))
    (case d59 => (refine' KP.fun_mkS (f := 543) KP.lookup_withSys (by decide) ?l ?c; (case l => k_is); (case c => kernel_rfl)))
    (case d60 => (refine' KP.fun_mkS (f := 548) KP.lookup_withSys (by decide) ?l ?c; (case l => k_is); (case c => kernel_rfl)))
    (case d61 => (refine' KP.fun_mkS (f := 553) KP.lookup_withSys (by decide) ?l ?c; (case l => k_is); (case c => kernel_rfl)))

