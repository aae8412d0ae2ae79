import PyProof.Rows.All
import Wide.All
import OpenK.AllK
import Wide.FinOn
import KE.DatumIndex
import HandS.ForMost
import HandS.ForExc
import HandS.ExcInit
import HandS.ExcIs
import HandS.ExcField
import HandS.IsInst
import HandS.Wide
import HandS.WideBits
import HandS.AnyAll
import HandS.Walk
import HandS.Conv
import HandS.TupAny
import KE.GoesEnumKw
import KE.DataIsa
import HandS.Comp
import HandS.Zip
import HandS.TupLe
import HandS.ListEq
import HandS.StrMore
import HandS.Dict
import HandS.SortKw
import KE.DataMinMax
import KE.KTupSum
import HandS.TupMul
import HandS.Style
import HandS.SortInts
import KE.SortCalls
import KE.KIndexOf
import KE.KDictDisplayH
import PySem.Challenge.RW_gentlerounds_k17_whole_shares_dealt_out
import HandS.Small
import HandS.ExcValue
import HandS.Iter
import HandS.TryMany
import HandS.TryOnly
import HandS.WordsExc
import HandS.Defaults
import HandS.ExcOwn
import HandS.EndTab
import KE.OsRunLaw
set_option Elab.async false
set_option maxRecDepth 100000
set_option maxHeartbeats 4000000
set_option linter.all false
/-! Ours: defs that are entered where no repr is under way (FnQ), their calls and bodies; repr of data. -/
namespace Gr
open PySem PySem.Spec PyProof.Rows L2

/-- a def's promise, for calls where no repr is under way -/
structure FnQ (P : Program) (w : World) (K : PySem.W.Frag) (mg : Str → Option Value) (base : Heap) (CX : CXT) (k : Nat)
    (f : Addr) (fd : FuncData) (ps : List Str) (sp : Sp) : Prop where
  len : ∀ vs H Q E, sp vs H Q E → vs.length = ps.length
  run : ∀ (A : Around) (outer : List Env) (s : Shared) (H : Hp) (args : Args) (us : List Value) (vs : List V) (Q : VK) (E : XK),
    A.guards = some [] → Room k A → Env0 P w K mg base A outer s H → BindsTo s fd args (ps.zip us) → Vals vs us → sp vs H Q E →
    codeAny (model P w) A (.call (.ref f) args) (CR CX outer P w H s Q E) s

section
variable {P : Program} {w : World} {K : PySem.W.Frag} {mg : Str → Option Value} {base : Heap}

theorem fnQ_fn {CX : CXT} {k : Nat} {f : Addr} {fd : FuncData} {ps : List Str} {sp : Sp}
    (F : FnOk P w K mg base CX k f fd ps sp) : FnQ P w K mg base CX k f fd ps sp :=
  ⟨F.len, fun A outer s H args us vs Q E _ => F.run A outer s H args us vs Q E⟩

/-- such a def by its body -/
theorem fnQ_of {CX : CXT} {k : Nat} {f : Addr} {nm ql : Str} {par : Arguments} {bd : List Stmt} {sc : Scope}
    {dV kV doc pm cdv ct oc : Value} {an od : Option Addr} {osl : Array (Option Value)} {N ps : List Str} {sp : Sp}
    (lk : K.lookup f = some ⟨oc, od, .func (PySem.W.fnOf nm ql par bd sc dV kV doc pm an cdv ct), osl⟩)
    (hcd : PySem.W.codeIn K cdv ql = true) (S : FnScope N ps sc)
    (len : ∀ vs H Q E, sp vs H Q E → vs.length = ps.length)
    (hb : ∀ (A : Around) (outer : List Env) (s : Shared) (H : Hp) (vs : List V) (Q : VK) (E : XK), A.guards = some [] →
      Room k (A.deeper (envOfC ql sc s.heap.objs.size f cdv)) → sp vs H Q E →
      ∃ t, PSs (cxOf CX P w K mg base N ql sc f cdv A outer s H E) bd t ∧
        t { nx := fun _ H' => Q .non H', rt := Q } (start N vs) H) :
    FnQ P w K mg base CX (k + 1) f (PySem.W.fnOf nm ql par bd sc dV kV doc pm an cdv ct) ps sp := by
  refine ⟨len, fun A outer s H args us vs Q E hgu hr e0 hbi r hsp => ?_⟩
  have hlen := len _ _ _ _ hsp
  have keepB : ∀ b o, base.get? b = some o → s.heap.get? b = some o := fun b o e => (e0.bs b o e).1
  have KX : K.In s.heap := e0.mod.kin.keeps keepB
  have lim : s.heap.NoLimit := e0.mod.nolimit.keeps keepB
  refine codeAny_call_function hr.depth (KX _ _ lk) rfl S.co S.gen rfl (PySem.W.codeRec_of KX hcd) (hbi _ _ _ _ ?_)
  refine wpAny_newFunctionEnv_cells S.kind (fun ⟨n, v⟩ hy => ?_) fun env he s1 x => ?_
  · exact (S.par n (List.of_mem_zip hy).1).elim .inl fun q => .inr ⟨q, PySem.W.cellsFrom_some _ _ _ (.inl q)⟩
  subst he
  refine ⟨lim.keeps x.toInCall.keep, codeAny_func ?_⟩
  obtain ⟨t, ht, hq⟩ := hb A outer s H vs Q E hgu (hr.deeper _) hsp
  have I := inv_start (CX := CX) (E := E) S hr.hd e0 hlen r x
  refine wpAny_mono (ht.run [] s1 (start N vs) H _ I hq) (fun fl s' hs => ?_) fun e s' hs => hs
  cases fl with
  | ret u =>
    obtain ⟨v, σ', H', J, rv, q⟩ := hs
    exact ⟨v, H', J.os, J.bare, J.base, J.hok, rv, q⟩
  | next =>
    obtain ⟨σ', H', J, q⟩ := hs
    exact ⟨V.non, H', J.os, J.bare, J.base, J.hok, rfl, q⟩
  | brk =>
    obtain ⟨_, _, _, q⟩ := hs
    exact q.elim
  | cont =>
    obtain ⟨_, _, _, q⟩ := hs
    exact q.elim

/-- the same in the words of Fun -/
theorem funQ {x ql : Str} {st : Stmt} {f : Addr} {fd : FuncData} {N ps : List Str} {k : Nat} {sp : Sp} (F : Fun K x ql st f fd)
    (S : FnScope N ps (defScope st)) (len : ∀ vs H Q E, sp vs H Q E → vs.length = ps.length)
    (hb : ∀ (cdv : Value) (A : Around) (outer : List Env) (s : Shared) (H : Hp) (vs : List V) (Q : VK) (E : XK), A.guards = some [] →
      Room k (A.deeper (envOfC ql (defScope st) s.heap.objs.size f cdv)) → sp vs H Q E →
      ∃ t, PSs (cxOf CX0 P w K mg base N ql (defScope st) f cdv A outer s H E).nox (defBody st) t ∧
        t { nx := fun _ H' => Q .non H', rt := Q } (start N vs) H) : FnQ P w K mg base CX0 (k + 1) f fd ps sp := by
  obtain ⟨oc, od, kV, doc, pm, an, cdv, ct, osl, rfl, lk, hcd⟩ := F.ex
  refine fnQ_of lk hcd S len fun A outer s H vs Q E hgu hr hsp => ?_
  obtain ⟨t, h, q⟩ := hb cdv A outer s H vs Q E hgu hr hsp
  exact ⟨t, h.nox, q⟩
/-- .. where exceptions may run within the body (a try) -/
theorem funQx {x ql : Str} {st : Stmt} {f : Addr} {fd : FuncData} {N ps : List Str} {k : Nat} {sp : Sp} {CX : CXT} (F : Fun K x ql st f fd)
    (S : FnScope N ps (defScope st)) (len : ∀ vs H Q E, sp vs H Q E → vs.length = ps.length)
    (hb : ∀ (cdv : Value) (A : Around) (outer : List Env) (s : Shared) (H : Hp) (vs : List V) (Q : VK) (E : XK), A.guards = some [] →
      Room k (A.deeper (envOfC ql (defScope st) s.heap.objs.size f cdv)) → sp vs H Q E →
      ∃ t, PSs (cxOf CX P w K mg base N ql (defScope st) f cdv A outer s H E) (defBody st) t ∧
        t { nx := fun _ H' => Q .non H', rt := Q } (start N vs) H) : FnQ P w K mg base CX (k + 1) f fd ps sp := by
  obtain ⟨oc, od, kV, doc, pm, an, cdv, ct, osl, rfl, lk, hcd⟩ := F.ex
  exact fnQ_of lk hcd S len fun A outer s H vs Q E hgu hr hsp => hb cdv A outer s H vs Q E hgu hr hsp
end

section
variable {X : Cx} {CX : CXT} {k : Nat} {f : Addr} {fd : FuncData} {ps : List Str} {sp : Sp} {dvs : List V} {ds : List Value} {E : XK} {x : Str} {p pos : Pos} {e : Expr} {es : List Expr} {t : TA}
theorem run_fnQ {pins : List (Addr × Obj)} {σ : L2.St} {H : Hp} {s : Shared} {Q : VK} {us : List Value} {vs : List V} (hgu : X.A.guards = some [])
    (F : FnQ X.prog X.w X.K X.mg X.base CX k f fd ps sp) (hr : Room k X.A) (hb : Binds X.K fd ps ds) (hd : Vals dvs ds) (hx : Passes CX X E)
    (I : Inv X pins σ H s) (r : Vals vs us) (h : sp (vs ++ dvs) H Q E) : wpAny (model X.prog X.w) X.A (call (.ref f) us) (EP X pins σ Q) X.xe s := by
  have r2 := Vals.append r hd
  have hl : (us ++ ds).length = ps.length := (r2.length).symm.trans (F.len _ _ _ _ h)
  refine wpAny_call (codeAny_mono (F.run X.A X.stack s H ⟨us, []⟩ (us ++ ds) (vs ++ dvs) Q E hgu hr I.env0 (hb s us I.kIn hl) r2 h) fun rr s' hq => ?_)
  match rr, hq with
  | .error e, hq => exact hx pins σ H s e s' I hq
  | .ok (.ret u), hq => exact I.after hq
/-- f(e, ..) -/
theorem pe_callQ (hgu : X.A.guards = some []) (F : FnQ X.prog X.w X.K X.mg X.base CX k f fd ps sp) (hr : Room k X.A) (hg : Gl X x) (hm : X.mg x = some (.ref f))
    (hk : PySem.W.keepIn X.K (.ref f) = true) (hb : Binds X.K fd ps ds) (hd : Vals dvs ds) (hx : Passes CX X E) (ha : PA X (e :: es) t)
    (hdb : (x == ("__debug__" : Str)) = false := by decide) (he : starEach (e :: es) X.env = (false, eval e X.env) :: starEach es X.env := by rfl)
    (hpl : (backTo pos (starEach es X.env)).any (·.1) = false := by rfl) : PE X (.Call (.Name x p) (e :: es) [] pos) (tCall sp dvs E t) :=
  ⟨fun pins s σ H Q I h => wpAny_Call_Name_kw (ld_glob I hg hm (PySem.W.callWith_K (h₀ := X.base) I.ok.mod.kin hk
    (thn (ha.run pos pins s σ H _ I h) fun us s1 ⟨vs, H1, I1, r, q⟩ => ⟨I1.kIn, run_fnQ hgu F hr hb hd hx I1 r q⟩) he hpl) hdb)⟩
end
end Gr

set_option Elab.async false
set_option maxRecDepth 100000
set_option maxHeartbeats 4000000
set_option linter.all false
/-! Ours: repr of data (lists, tuples, dicts of int and text keys, nested), where no repr is under way. -/
namespace Gr
open PySem PySem.Spec PyProof.Rows L2

mutual
/-- the value v holds the data d -/
inductive Dq (K : PySem.W.Frag) (H : Hp) : V → PyData → Prop
  | non : Dq K H .non .none
  | bl (b : Bool) : Dq K H (.bl b) (.bool b)
  | int (i : Int) : Dq K H (.int i) (.int i)
  | str (x : Str) : Dq K H (.str x) (.str x)
  | lst {a : Addr} {xs : List V} {ds : List PyData} : SqL K H a xs → DqAll K H xs ds → Dq K H (.ref a) (.list ds)
  | tup {a : Addr} {xs : List V} {ds : List PyData} : SqT K H a xs → DqAll K H xs ds → Dq K H (.ref a) (.tuple ds)
  | dic {a : Addr} {kvs : List (Key × V)} {ds : List (PyData × PyData)} : H a = some (.dK kvs) →
      DqAll K H (kvs.map fun p => kV p.1) (ds.map (·.1)) → DqAll K H (kvs.map (·.2)) (ds.map (·.2)) → Dq K H (.ref a) (.dict ds)
inductive DqAll (K : PySem.W.Frag) (H : Hp) : List V → List PyData → Prop
  | nil : DqAll K H [] []
  | cons {v : V} {vs : List V} {d : PyData} {ds : List PyData} : Dq K H v d → DqAll K H vs ds → DqAll K H (v :: vs) (d :: ds)
end

theorem SqT_same {K : PySem.W.Frag} {H H' : Hp} {a : Addr} {xs : List V} (e : Same H H') (h : SqT K H a xs) : SqT K H' a xs := by
  rcases h with (h | ⟨o, h⟩) | h
  · exact .inl (.inl (e _ _ h))
  · exact .inl (.inr ⟨o, e _ _ h⟩)
  · exact .inr h
/-- what more is tracked changes no data -/
theorem Dq.same {K : PySem.W.Frag} {H H' : Hp} {v : V} {d : PyData} (e : Same H H') (h : Dq K H v d) : Dq K H' v d :=
  Dq.rec (motive_1 := fun v d _ => Dq K H' v d) (motive_2 := fun vs ds _ => DqAll K H' vs ds)
    .non .bl .int .str (fun hs _ ih => .lst (e.seq hs) ih) (fun hs _ ih => .tup (SqT_same e hs) ih)
    (fun hd _ _ i1 i2 => .dic (e _ _ hd) i1 i2) .nil (fun _ _ i1 i2 => .cons i1 i2) h
theorem DqAll.rep {K : PySem.W.Frag} {H : Hp} {v : V} {d : PyData} (h : Dq K H v d) : ∀ n : Nat, DqAll K H (List.replicate n v) (List.replicate n d)
  | 0 => .nil
  | n + 1 => .cons h (DqAll.rep h n)

theorem keys_of_pairs {P : Program} {w : World} : ∀ {es : List DictEntry} {kvs : List (Key × Value)}, Pairs (mixKind P w) es kvs → Vals (kvs.map fun p => kV p.1) (es.map (·.key))
  | _, _, .nil => .nil
  | _, _, .cons h _ t => by
    refine .cons ?_ (keys_of_pairs t)
    rcases keyIs_shape h with ⟨i, t, e1, e2⟩ | ⟨x, t, e1, e2⟩
    · dsimp only
      rw [e1, e2]
      exact ⟨t, rfl⟩
    · dsimp only
      rw [e1, e2]
      exact ⟨t, rfl⟩
theorem vals_of_pairs {P : Program} {w : World} : ∀ {es : List DictEntry} {kvs : List (Key × Value)}, Pairs (mixKind P w) es kvs → es.map (·.val) = kvs.map (·.2)
  | _, _, .nil => rfl
  | _, _, .cons _ h t => by rw [List.map_cons, List.map_cons, h, vals_of_pairs t]
theorem kv_keys : ∀ {kvs : List (Key × V)} {vs : List (Key × Value)}, KV kvs vs → kvs.map (fun p => kV p.1) = vs.map (fun p => kV p.1)
  | _, _, .nil => rfl
  | _, _, .cons h t => by rw [List.map_cons, List.map_cons, h.1, kv_keys t]
theorem kv_vals : ∀ {kvs : List (Key × V)} {vs : List (Key × Value)}, KV kvs vs → Vals (kvs.map (·.2)) (vs.map (·.2))
  | _, _, .nil => .nil
  | _, _, .cons h t => .cons h.2 (kv_vals t)

/-- sys.modules is a dict of the written part -/
def SysM (K : PySem.W.Frag) : Prop := ∃ o es n, K.lookup sysModules = some o ∧ o.data = .dict es n

section
variable {X : Cx} {pins : List (Addr × Obj)} {σ : L2.St} {H : Hp} {s : Shared}
theorem Dq.reads (I : Inv X pins σ H s) {v : V} {d : PyData} (h : Dq X.K H v d) : ∀ u : Value, RelV v u → ∃ as, Reads s.heap u d as ∧ (SysM X.K → sysModules ∉ as) := by
  refine Dq.rec (motive_1 := fun v d _ => ∀ u : Value, RelV v u → ∃ as, Reads s.heap u d as ∧ (SysM X.K → sysModules ∉ as))
    (motive_2 := fun vs ds _ => ∀ us : List Value, Vals vs us → ∃ as, ReadsAll s.heap us ds as ∧ (SysM X.K → sysModules ∉ as)) ?_ ?_ ?_ ?_ ?_ ?_ ?_ ?_ ?_ h
  · intro u r
    cases r
    exact ⟨_, .none, fun _ z => nomatch z⟩
  · intro b u r
    cases r
    exact ⟨_, .bool b, fun _ z => nomatch z⟩
  · intro i u r
    obtain ⟨t, rfl⟩ := r
    exact ⟨_, .int i t, fun _ z => nomatch z⟩
  · intro x u r
    obtain ⟨t, rfl⟩ := r
    exact ⟨_, .str x t, fun _ z => nomatch z⟩
  · intro a xs ds hs _ ih u r
    cases r
    obtain ⟨its, rv, ⟨o, n, ho, hc, _, hd⟩, _⟩ := I.list hs
    obtain ⟨as, hr, hm⟩ := ih its rv
    refine ⟨_, .list ho hc hd hr, fun M z => ?_⟩
    rcases List.mem_cons.mp z with z | z
    · obtain ⟨o', es, n', e1, e2⟩ := id M
      have e3 := I.kIn _ _ e1
      rw [z, ho] at e3
      cases e3
      rw [hd] at e2
      cases e2
    · exact hm M z
  · intro a xs ds hs _ ih u r
    cases r
    obtain ⟨its, rv, ⟨o, ho, hc, n, hd⟩, _⟩ := I.tuple hs
    obtain ⟨as, hr, hm⟩ := ih its rv
    exact ⟨_, .tuple ho hc hd hr, hm⟩
  · intro a kvs ds hd _ _ i1 i2 u r
    cases r
    obtain ⟨_, hsm, vs, kv, o, es, ep, ho, hx, hdt, _, hp, _⟩ := (show ObjOk X.prog X.w H s.heap a (.dK kvs) from I.hok a _ hd)
    obtain ⟨as, r1, m1⟩ := i1 (es.toList.map (·.key)) (by rw [kv_keys kv]; exact keys_of_pairs hp)
    obtain ⟨bs, r2, m2⟩ := i2 (es.toList.map (·.val)) (by rw [vals_of_pairs hp]; exact kv_vals kv)
    refine ⟨_, .dict ho hx.1 hdt r1 r2, fun M z => ?_⟩
    rcases List.mem_append.mp z with z | z
    · rcases List.mem_cons.mp z with z | z
      · rw [← z] at hsm
        exact absurd hsm (by decide)
      · exact m1 M z
    · exact m2 M z
  · intro us r
    cases r
    exact ⟨_, .nil, fun _ z => nomatch z⟩
  · intro v vs d ds _ _ i1 i2 us r
    cases r with
    | cons ra rr =>
      obtain ⟨as, q1, m1⟩ := i1 _ ra
      obtain ⟨bs, q2, m2⟩ := i2 _ rr
      refine ⟨_, .cons q1 q2, fun M z => ?_⟩
      rcases List.mem_append.mp z with z | z
      · exact m1 M z
      · exact m2 M z
end

/-- repr(x), x data -/
def rRepr (K : PySem.W.Frag) : List V → Hp → VK → Prop := fun xs H Q => ∃ v d, xs = [v] ∧ Dq K H v d ∧ d.showable = true ∧ d.depth ≤ 60 ∧ d.shown.length ≤ sizeLine ∧ Q (.str d.shown) H

theorem repr_ref_only {h : Heap} {d : PyData} {a : Addr} {as : List Addr} (r : Reads h (.ref a) d as) : True := trivial
section
variable {X : Cx}
theorem call_reprD (hgu : X.A.guards = some []) (hu : X.A.units + 64 < cLine) (hM : SysM X.K) : CallR X (.builtin "repr") (rRepr X.K) := by
  intro pins s σ H xs us Q I r h
  obtain ⟨v, d, rfl, hd, hs, hdp, hz, q⟩ := h
  obtain ⟨u, rfl, ru⟩ := vals1 r
  obtain ⟨as, hr, hm⟩ := hd.reads I u ru
  have fin : ∀ h' tk t, (∀ b o, s.heap.get? b = some o → h'.get? b = some o) → EP X pins σ Q (.str d.shown t) { s with heap := h', toks := tk } :=
    fun h' tk t hk => ⟨.str d.shown, H, I.kept hk, ⟨_, rfl⟩, q⟩
  cases v with
  | ref a =>
    cases (show u = Value.ref a from ru)
    exact repr_of_reads' hr hs (fun _ => hm hM) hgu (by omega) (fun _ _ e => e) (fun h' t tk hk => fin h' tk t hk) hz
  | non =>
    cases hd
    cases (show u = Value.none from ru)
    exact PySem.P.repr_of_none (fin s.heap _ _ fun _ _ e => e)
  | bl b =>
    cases hd
    cases (show u = Value.bool b from ru)
    exact PySem.P.repr_of_bool (fin s.heap _ _ fun _ _ e => e)
  | int i =>
    cases hd
    obtain ⟨t, e⟩ := (show ∃ t, u = Value.int i t from ru)
    subst e
    exact PySem.P.repr_of_int (by simpa [PyData.showable] using hs) (fin s.heap _ _ fun _ _ e => e)
  | str x =>
    cases hd
    obtain ⟨t, e⟩ := (show ∃ t, u = Value.str x t from ru)
    subst e
    exact PySem.P.repr_of_str (fin s.heap _ _ fun _ _ e => e) (by simpa [PyData.shown] using hz)
  | byt b => cases hd
  | flt b => cases hd
  | ty n => cases hd
end
end Gr

set_option Elab.async false
set_option maxRecDepth 100000
set_option maxHeartbeats 4000000
set_option linter.all false
/-! Ours: all(..) of a generator expression over a text's signs whose element may read names of the module. -/
namespace Gr
open PySem PySem.Spec PyProof.Rows L2 GxR

/-- the element tells pb of the sign; the running def's module is at hand -/
def EltG (X : Cx) (scope : Scope) (x : Str) (elt : Expr) (pb : Nat → Bool) : Prop :=
  ∀ (en : Env) (B : Around) (E' : Value → Shared → Prop) (c : Nat) (t : Tok) (z : Shared) (m : Str → Option Value),
    en.scope = scope → en.globals = X.env.globals → (∀ b o, X.base.get? b = some o → z.heap.get? b = some o) → X.base.Ns mainGlobals X.mg → X.env.globals = mainGlobals → z.heap.Ns en.locals m → m x = some (.str ⟨#[c]⟩ t) →
    wpAny (model X.prog X.w) B (eval elt en) (fun y z' => y = .bool (pb c) ∧ Keeps z z') E' z

section
variable {X : Cx} {pins : List (Addr × Obj)} {σ : L2.St} {H : Hp} {s : Shared}
/-- the code of a generator expression, and the built-ins it sees, behind an iterator that was just made -/
theorem code_then {c P : Addr} {ps : Array Value} {o : Obj} {scope : Scope} {q : Str} {gpos : Pos} {E : Value → Shared → Prop} {R : Value → Addr → Shared → Prop} (I : Inv X pins σ H s)
    (TB : TabB X.base X.mg c P) (hcode : X.env.code = .ref c) (hP : H P = some (.tbl ps)) (ht : TriplesOk ps.toList)
    (h : ∀ (cv : Value) (k : Heap) (tk : Nat) (more : Array Value), (∀ b u, b ≠ P → (s.heap.push o).get? b = some u → k.get? b = some u) → s.heap.objs.size < k.objs.size → k.get? P = some { cls := .none, data := .fields (ps ++ more) } → TriplesOk (ps ++ more).toList → k.NoLimit →
      R cv builtinsNs { s with heap := k, toks := tk }) :
    wpAny (model X.prog X.w) X.A (genexprCode X.env gpos q scope) (fun cv z => wpAny (model X.prog X.w) X.A (builtinsFor X.env.globals X.env.builtins) (fun bi z' => R cv bi z') E z) E { s with heap := s.heap.push o } := by
  have p0 : s.heap.get? P = some { cls := .none, data := .fields ps } := I.hok P _ hP
  have p1 : (s.heap.push o).get? P = some { cls := .none, data := .fields ps } := Heap.get?_push_of_some _ p0
  have cd : PySem.W.CodeHd (s.heap.push o) c P := TB.code.keeps fun b u e => Heap.get?_push_of_some _ (I.bk b u e)
  have lim : (s.heap.push o).NoLimit := I.nolimit.push o
  have nP : cStatics ≠ P := by
    obtain ⟨_, ⟨o', es, ep, ho, hd, _⟩, _⟩ := I.nolimit
    intro e
    rw [e, p0] at ho
    cases ho
    cases hd
  have last : ∀ (cv : Value) (k : Heap) (tk : Nat) (more : Array Value), Heap.ExtBut P (s.heap.push o) k → (s.heap.push o).objs.size ≤ k.objs.size → k.get? P = some { cls := .none, data := .fields (ps ++ more) } → TriplesOk (ps ++ more).toList →
      wpAny (model X.prog X.w) X.A (builtinsFor X.env.globals X.env.builtins) (fun bi z' => R cv bi z') E { s with heap := k, toks := tk } := by
    intro cv k tk more hx hs hp ht'
    obtain ⟨bm, ob, e1, e2, e3, e4, e5, e6, e7, e8⟩ := TB.bm
    have up : ∀ b u, b ≠ P → s.heap.get? b = some u → k.get? b = some u := fun b u n e => hx b u n (Heap.get?_push_of_some _ e)
    have g : k.Ns X.env.globals X.mg := by
      rw [I.ok.glob]
      exact ((I.mod.glob.keeps I.bk).push o).extBut hx TB.gP
    refine wpAny_builtinsFor g e1 e2 (up _ _ e4 (I.bk _ _ e5)) e6 e7 e8 (h cv k tk more hx ?_ hp ht' (lim.extBut hx nP))
    rw [Heap.size_push] at hs
    exact hs
  cases hf : codeAmong gpos ps.toList with
  | none =>
    refine wpAny_genexprCodeX hcode (cd.code p1 ht) (cd.tab p1) hf fun c' k tk hx hge hlt hco _ htab _ => ?_
    obtain ⟨_, _, _, _, _, _, _, _, _, _, _, _, _, _, _, _, _, _, _, htr, _⟩ := hco
    exact last _ k tk _ hx (Nat.le_of_lt (Nat.lt_of_le_of_lt hge hlt)) htab.2 htr
  | some cv =>
    refine wpAny_genexprCode_hit hcode (cd.code p1 ht) hf ?_
    have e : ps ++ #[] = ps := by simp
    exact last cv (s.heap.push o) s.toks #[] (fun b u _ e => e) (Nat.le_refl _) (by rw [e]; exact p1) (by rw [e]; exact ht)

theorem genG {c P : Addr} {elt iter : Expr} {x : Str} {px gpos : Pos} {scope : Scope} {pb : Nat → Bool} {te : TE} {k : Nat} {W : Value → Shared → Prop} {R : Str → Hp → Prop}
    (hr : Room k X.A) (TB : TabB X.base X.mg c P) (hcode : X.env.code = .ref c) (S : GenS X.env scope x) (hi : PE X iter te) (hel : EltG X scope x elt pb)
    (hs : ∀ v, genFold iter X.env v = pure v) (I : Inv X pins σ H s) (h : te σ H fun v H1 => ∃ a : Str, v = .str a ∧ TabG H1 P ∧ R a H1)
    (hQ : ∀ a H1 g z, R a H1 → Ready X pins σ H1 P a pb g z → W (.ref g) z) :
    wpAny (model X.prog X.w) X.A (eval (.GeneratorExp elt [⟨.Name x px, iter, [], 0⟩] scope gpos) X.env) W X.xe s := by
  have dr : X.A.depth < recursionLimit := Nat.lt_of_le_of_lt (by omega) hr.dp
  refine wpAny_GeneratorExp_walksQ hr.hd S.co (closure_ok S.free) S.cell S.dot S.loc S.kind dr (thn (hi.run pins s σ H _ I h) ?_) hs
  rintro xv s1 ⟨v, H1, I1, r1, a, rfl, ⟨ps, hP, ht⟩, q1⟩
  obtain ⟨t, rfl⟩ := id r1
  refine wpAny_pyIter_str fun o St Wk st0 => ⟨I1.nolimit.push o, code_then I1 TB hcode hP ht fun cv h3 tk more up lt hp ht' lim => ?_⟩
  have p0 : s1.heap.get? P = some { cls := .none, data := .fields ps } := I1.hok P _ hP
  have pl : P < s1.heap.objs.size := Heap.lt_size p0
  have at1 : ∀ b, b ∈ [s1.heap.objs.size] → b = s1.heap.objs.size := fun b hb => List.mem_singleton.mp hb
  have ne1 : s1.heap.objs.size ≠ P := fun e => Nat.lt_irrefl _ (e ▸ pl)
  have cl : cStatics < s1.heap.objs.size := let ⟨_, n, _⟩ := I1.nolimit; n.lt
  have up0 : ∀ b u, b ≠ P → s1.heap.get? b = some u → h3.get? b = some u := fun b u n e => up b u n (Heap.get?_push_of_some _ e)
  refine ⟨s1.heap.objs.size, [s1.heap.objs.size], [s1.heap.objs.size], a.cps.size, SignAt a, St, fun _ => true, fun i y => ∃ d, a.cps[i]? = some d ∧ y = .bool (pb d), rfl, Wk, ?_, fun b hb => ?_, lim, fun z => ?_, fun href hh => ?_, ?_⟩
  · refine (Wk X.A hr.hd).frame _ _ _ st0 fun b hb u e => up b u ?_ e
    rw [at1 b hb]
    exact ne1
  · rw [at1 b hb]
    exact lt
  · rw [at1 _ z] at cl
    exact Nat.lt_irrefl _ cl
  · constructor
    · intro B E' i v z m _ _ _ _ _
      rw [List.forIn_nil]
      exact wpAny_pure ⟨rfl, keeps_refl _⟩
    · intro B E' i v z m _ hv _ hn hm hk
      obtain ⟨d, u, hd, rfl⟩ := hv
      refine wpAny_mono (hel _ B E' d u z m rfl rfl (fun b w' e => ?_) I1.mod.glob I1.ok.glob hn hm) (fun y z' r => ⟨⟨d, hd, r.1⟩, r.2⟩) fun _ _ e => e
      obtain ⟨e1, e2⟩ := I1.bs b w' e
      have nb : b ≠ P := fun z => by
        rw [z, hP] at e2
        cases e2
      have lb : b < s1.heap.objs.size := Heap.lt_size e1
      refine hk b (List.mem_range.mpr (Nat.lt_trans lb lt)) (fun z => ?_) _ (hh _ _ (up0 b w' nb e1))
      rw [at1 b z] at lb
      exact Nat.lt_irrefl _ lb
  · intro g h5 tk5 gs gb ag sz5 k5 W5 hat
    simp only [GxR.passing_true, List.length_range] at W5
    refine hQ a H1 g _ q1 ⟨_, _, _, _, _, W5.in4_1, hat, ?_, fun s' mv => ?_⟩
    · rintro j y z Q' E' ⟨i, hij, d, hd, rfl⟩ q
      obtain ⟨hj, ej⟩ := List.getElem?_eq_some_iff.mp hij
      rw [List.getElem_range] at ej
      cases ej
      have e : a.cps.toList[j]? = some d := (Array.getElem?_toList (xs := a.cps) (i := j)).trans hd
      have q' : Q' (trF pb a.cps.toList j) z := q
      rw [trF_some e] at q'
      exact wpAny_truthy_bool q'
    · have nw : ∀ b u, s1.heap.get? b = some u → b ∉ h3.objs.size :: [s1.heap.objs.size] := fun b u e hb => by
        have l := Heap.lt_size e
        have l2 : s1.heap.objs.size < h3.objs.size := lt
        rcases List.mem_cons.mp hb with z | z
        · rw [z] at l
          exact Nat.lt_asymm l l2
        · rw [at1 b z] at l
          exact Nat.lt_irrefl _ l
      have J := inv_tab (more := more) (h' := s'.heap) (g' := s'.gens) (d' := s'.drawn) (t' := s'.toks) I1 hP (fun b u n e => mv.heap b u (nw b u e) (k5 b u (up0 b u n e))) (mv.heap P _ (nw P _ p0) (k5 P _ hp)) (AllBare.movedS (I1.bare.push gb) mv)
      have es : ({ s1 with heap := s'.heap, gens := s'.gens, drawn := s'.drawn, toks := s'.toks } : Shared) = s' := by
        obtain ⟨_, _, _, _, _⟩ := s'
        have := mv.os
        dsimp only at this
        rw [this]
      rw [es] at J
      exact ⟨upd H1 P (.tbl (ps ++ more)), ⟨⟨_, upd_same, ht'⟩, fun b hb => upd_ne hb⟩, J⟩

/-- all(elt for x in e), e a text -/
theorem pe_allG {c P : Addr} {elt iter : Expr} {x : Str} {px p pos gpos : Pos} {scope : Scope} {pb : Nat → Bool} {te : TE} {k : Nat}
    (hr : Room k X.A) (hg : Gl X "all") (hm : X.mg "all" = none) (TB : TabB X.base X.mg c P) (hcode : X.env.code = .ref c) (S : GenS X.env scope x) (hi : PE X iter te) (hel : EltG X scope x elt pb)
    (hs : ∀ v, genFold iter X.env v = pure v)
    (he : starEach [.GeneratorExp elt [⟨.Name x px, iter, [], 0⟩] scope gpos] X.env = (false, eval (.GeneratorExp elt [⟨.Name x px, iter, [], 0⟩] scope gpos) X.env) :: starEach [] X.env := by rfl) :
    PE X (.Call (.Name "all" p) [.GeneratorExp elt [⟨.Name x px, iter, [], 0⟩] scope gpos] [] pos) (tAllS P pb te) := by
  refine ⟨fun pins s σ H Q I h => wpAny_Call_Name_kw (ld_blt I hg hm boot_all (PyProof.Rows.callWith_builtin1 ?_ he (by rfl)))⟩
  rw [he]
  show wpAny _ _ (spliced ((false, eval (.GeneratorExp elt [⟨.Name x px, iter, [], 0⟩] scope gpos) X.env) :: backTo pos (starEach [] X.env))) _ _ s
  refine Calls.spliced_cons (genG (R := fun a H1 => ∀ H2, Tabbed P H1 H2 → Q (.bl (a.cps.toList.all pb)) H2) hr TB hcode S hi hel hs I h ?_)
  rintro a H1 g z hR ⟨fp, wr, G, F, St, W, hst, htr, hI⟩
  refine Calls.spliced_nil (call_all_walkS (W.self 0 _ _ _ hst ⟨g, fp, wr, G, _, F, St, _, rfl, W, hst, htr, fun s' mv => ?_⟩))
  obtain ⟨H2, hT, J⟩ := hI s' mv
  rw [all_signs a pb]
  exact ⟨.bl _, H2, J, rfl, hR H2 hT⟩
end

/-- x == 'k' -/
theorem eg_eq {X : Cx} {scope : Scope} {x k : Str} {j : Nat} {p1 p2 p3 : Pos} (hk : scope.kind = .function) (hl : scope.names.lookup x = some .local) (hd : (x == ("__debug__" : Str)) = false := by decide) :
    EltG X scope x (.Compare (.Name x p1) [.Eq] [.Constant (.str k) j p2] p3) (fun c => [c] == k.cps.toList) :=
  fun en B E' c t z m hs _ _ _ _ hn hm => elt_eq (prog := X.prog) (w := X.w) (scope := scope) hk hl hd en B E' c t z m hs hn hm
/-- x in G, G a text of the module -/
theorem eg_in {X : Cx} {scope : Scope} {x G : Str} {y : Str} {t0 : Tok} {p1 p2 p3 : Pos} (hk : scope.kind = .function) (hl : scope.names.lookup x = some .local) (hG : scope.names.lookup G = some .globalImplicit) (hmG : X.mg G = some (.str y t0))
    (hd : (x == ("__debug__" : Str)) = false := by decide) (hd2 : (G == ("__debug__" : Str)) = false := by decide) :
    EltG X scope x (.Compare (.Name x p1) [.In] [.Name G p2] p3) (fun c => decide (c ∈ y.cps.toList)) := by
  intro en B E' c t z m hs hg hb hns hgl hn hm
  have hkind : en.scope.kind = .function := by rw [hs]; exact hk
  have hkx : en.scope.names.lookup x = some .local := by rw [hs]; exact hl
  have hkG : en.kindOf G = some .globalImplicit := by
    show en.scope.names.lookup G = _
    rw [hs]
    exact hG
  refine wpAny_Compare1 (wpAny_Name (wpAny_loadName_local hkind hkx hn hm ?_) hd) (by rfl)
  refine Calls.Name_function_global hkind hkG (Calls.loadGlobal_global (by rw [hg, hgl]; exact hns.keeps hb) hmG ?_) hd2
  refine PyProof.Rows.in_str ⟨?_, keeps_refl _⟩
  rw [PySem.StrLaws.found_one]
/-- a or b -/
theorem eg_or {X : Cx} {scope : Scope} {x : Str} {a b : Expr} {pa pb : Nat → Bool} {pos : Pos} (ha : EltG X scope x a pa) (hb : EltG X scope x b pb) : EltG X scope x (.BoolOp .Or [a, b] pos) (fun c => pa c || pb c) := by
  intro en B E' c t z m hs hg hbs hns hgl hn hm
  refine BoolOp_or (wpAny_mono (ha en B _ c t z m hs hg hbs hns hgl hn hm) (fun y z' ⟨e, ⟨h', tk, e2, kp⟩⟩ => ?_) fun _ _ e => e)
  subst e
  subst e2
  refine wpAny_truthy_bool ?_
  cases hc : pa c with
  | true => exact ⟨by show _ = Value.bool (pa c || pb c); rw [hc]; rfl, h', tk, rfl, kp⟩
  | false =>
    refine BoolOp_one (wpAny_mono (hb en B E' c t _ m hs hg (fun b o e => kp b o (hbs b o e)) hns hgl (hn.keeps kp) hm) (fun y z' ⟨e, ⟨h2, tk2, e2, kp2⟩⟩ => ?_) fun _ _ e => e)
    subst e
    subst e2
    exact ⟨by show _ = Value.bool (pa c || pb c); rw [hc]; rfl, h2, tk2, rfl, fun b o q => kp2 b o (kp b o q)⟩
end Gr

set_option Elab.async false
set_option maxRecDepth 100000
set_option maxHeartbeats 4000000
set_option linter.all false
/-! Ours: enumerate over a text, with or without a start told by its name; o.f |= e; a def called with keywords alone. -/
namespace Gr
open PySem PySem.Spec PyProof.Rows L2

/-- pairs (c + i, the sign at i) of a text, each a new one -/
def Itx (x : Str) (c : Int) : It := ⟨fun i _ => i < x.cps.size, fun i H v H' => ∃ T d, v = .ref T ∧ H T = none ∧ H' = upd H T (.tup [.int (c + (i : Nat)), .str ⟨#[d]⟩]) ∧ x.cps[i]? = some d, fun i _ => x.cps.size = i⟩
def YTx (x : Str) (c : Int) : Nat → Hp → V → Hp → Prop := fun i H v H' => ∃ T d, v = .ref T ∧ H T = none ∧ H' = upd H T (.tup [.int (c + (i : Nat)), .str ⟨#[d]⟩]) ∧ x.cps[i]? = some d
theorem walk_tx {x : Str} {c : Int} : Walk (Itx x c) x.cps.size (fun _ => True) (YTx x c) :=
  ⟨fun _ _ hi _ => hi, fun _ _ => rfl, fun _ _ _ _ _ _ y => y⟩
theorem turn_tx {P : Program} {w : World} {K : PySem.W.Frag} {elts : List Expr} {kk : Nat} {tpos : Pos} {e it : Addr} {x : Str} {t : Tok} {c : Int} :
    Turn P w K (.Tuple elts kk tpos) (Itx x c) [e, it] e (fun i h => (∃ old, IsEnum h e it (c + (i : Int)) old) ∧ h.IsStrIter it (strIterType x) x t i ∧ e ≠ it) where
  mem := List.mem_cons_self
  obj := by
    rintro i h ⟨⟨old, he⟩, ⟨o, ho, hc, hd⟩, _⟩ b hb
    rcases List.mem_cons.mp hb with z | z
    · rw [z]
      exact ⟨_, he, fun v q => nomatch q⟩
    · rw [List.mem_singleton.mp z]
      exact ⟨o, ho, fun v q => by rw [hd] at q; cases q⟩
  keep := by
    rintro i h h' ⟨⟨old, he⟩, ⟨o, ho, r⟩, ne⟩ k
    exact ⟨⟨old, k e (List.mem_cons_self) _ he⟩, ⟨o, k it (by simp) _ ho, r⟩, ne⟩
  item := by
    intro X hP hw hK hc i pins s σ H E I hf st hg
    subst hP hw hK
    obtain ⟨⟨old, he⟩, hit, ne⟩ := st
    have el : e < s.heap.objs.size := Heap.lt_size he
    have il : it < s.heap.objs.size := let ⟨_, q, _⟩ := hit; Heap.lt_size q
    refine wpAny_pyNext_enum_itemC (Draws.text (A := X.A.in1) (I.ok.hd hc) it x t) he hit hg ne (fun z => ne (List.mem_singleton.mp z)) fun u h' tk hu ho hit' hT hz hk => ?_
    obtain ⟨d, tu, hd, rfl⟩ := hu
    refine ⟨_, rfl, wpAny_letOwnedTupleGo_enum (s := { s with heap := h', toks := tk + 1 }) ho fun h'' he' sb => ?_⟩
    have nT : s.heap.objs.size ≠ e := Nat.ne_of_gt el
    have hT2 : h''.get? s.heap.objs.size = some { cls := .type "tuple", data := .seq #[.int (c + (i : Int)) tk, .str ⟨#[d]⟩ tu] } := (sb.2 _ nT).trans hT
    have new : ObjOk X.prog X.w (upd H s.heap.objs.size (.tup [.int (c + (i : Nat)), .str ⟨#[d]⟩])) h'' s.heap.objs.size (.tup [.int (c + (i : Nat)), .str ⟨#[d]⟩]) :=
      ⟨by show 2 ≤ sizeLine; decide, _, .cons ⟨_, rfl⟩ (.cons ⟨_, rfl⟩ .nil), ⟨_, hT2, rfl, _, rfl⟩⟩
    have I1 : Inv X pins σ (upd H s.heap.objs.size (.tup [.int (c + (i : Nat)), .str ⟨#[d]⟩])) { s with heap := h'', toks := tk + 1 } := by
      refine I.turnedNew (ch := [e, it]) (fun b ob hb q => ?_) hf (Nat.le_refl _) new
      have n1 : b ≠ e := fun z => hb (z ▸ List.mem_cons_self)
      have n2 : b ≠ it := fun z => hb (by rw [z]; exact List.mem_cons_of_mem _ List.mem_cons_self)
      exact (sb.2 b n1).trans (hk b ob n1 n2 q)
    refine ⟨.ref s.heap.objs.size, _, I1, rfl, ⟨_, d, rfl, I.hok.fresh (Nat.le_refl _), rfl, hd⟩, ⟨⟨.str ⟨#[d]⟩ tu, ?_⟩, ?_, ne⟩, fun b hb => ?_⟩
    · have q : c + ((i + 1 : Nat) : Int) = c + (i : Int) + 1 := by omega
      rw [q]
      exact he'
    · obtain ⟨o, q, r⟩ := hit'
      exact ⟨o, (sb.2 it (Ne.symm ne)).trans q, r⟩
    · have lb : b < s.heap.objs.size := by
        rcases List.mem_cons.mp hb with z | z
        · rw [z]
          exact el
        · rw [List.mem_singleton.mp z]
          exact il
      rw [upd_ne (Nat.ne_of_lt lb)]
      exact (hf b hb).1
  done := by
    intro X hP hw hK hc i pins s σ H E I hf st hg
    subst hP hw hK
    obtain ⟨⟨old, he⟩, hit, ne⟩ := st
    have hi : x.cps.size = i := hg
    subst hi
    have D := Draws.text (prog := X.prog) (w := X.w) (A := X.A.in1) (I.ok.hd hc) it x t
    obtain ⟨f0, f1, f2, f3, f4, f5⟩ := hf it (by simp)
    exact wpAny_pyNext_enum_endD D he hit fun h' eb => ⟨rfl, I.turned (t' := s.toks) (fun b o hb q => eb b o hb q) f0 f1 f3 f4 f5⟩
  self := fun A i s Q E ⟨⟨_, he⟩, _⟩ h => wpAny_pyIter_enum he h

/-- enumerate(e), e a text; enumerate(e, start=k) -/
def iEnumS (ta : TA) : TI := fun σ H R => ta σ H fun vs H1 => ∃ x, vs = [.str x] ∧ R (Itx x 0) H1
def iEnumK (ta tk : TA) : TI := fun σ H R => ta σ H fun vs H1 => tk σ H1 fun ks H2 => ∃ x k, vs = [.str x] ∧ ks = [.int k] ∧ -(2 ^ 63) ≤ k ∧ k < 2 ^ 63 ∧ R (Itx x k) H2
section
variable {X : Cx} {e f : Expr} {ta tk : TA} {p pos tpos kpos : Pos} {elts : List Expr} {kk : Nat}
theorem begun_tx {pins : List (Addr × Obj)} {σ : L2.St} {H : Hp} {s : Shared} {R : It → Hp → Prop} {x : Str} {t : Tok} {k : Int} {h' : Heap} (I : Inv X pins σ H s)
    (he : IsEnum h' (s.heap.objs.size + 1) s.heap.objs.size k .none) (hit : h'.IsStrIter s.heap.objs.size (strIterType x) x t 0) (hk : ∀ b o, s.heap.get? b = some o → h'.get? b = some o) (q : R (Itx x k) H) :
    PIE X pins σ (.Tuple elts kk tpos) R (.ref (s.heap.objs.size + 1)) { s with heap := h' } := by
  refine ⟨_, [s.heap.objs.size + 1, s.heap.objs.size], _, _, H, rfl, I.kept (t' := s.toks) hk, turn_tx (x := x) (t := t) (c := k), ⟨⟨.none, ?_⟩, hit, Nat.succ_ne_self _⟩, fun b hb => ?_, q⟩
  · have z : k + ((0 : Nat) : Int) = k := by omega
    rw [z]
    exact he
  · have lb : s.heap.objs.size ≤ b := by
      rcases List.mem_cons.mp hb with z | z
      · rw [z]
        exact Nat.le_succ _
      · rw [List.mem_singleton.mp z]
        exact Nat.le_refl _
    exact I.fpOk lb (I.hok.fresh lb)
theorem pi_enumS (hg : Gl X "enumerate") (hm : X.mg "enumerate" = none) (ha : PA X [e] ta) (hs : starEach [e] X.env = [(false, eval e X.env)] := by rfl) :
    PI X (.Tuple elts kk tpos) (.Call (.Name "enumerate" p) [e] [] pos) (iEnumS ta) := by
  refine ⟨fun pins s σ H R I h => Call_ (ld_blt I hg hm boot_enumerate (PyProof.Rows.callWith_type1 (thn (ha.run pos pins s σ H _ I h) ?_) hs rfl))⟩
  rintro us s1 ⟨vs, H1, I1, r1, x, rfl, q⟩
  obtain ⟨u, rfl, ru⟩ := vals1 r1
  obtain ⟨t, rfl⟩ := ru
  exact call_enumerate_str fun h' he hit _ hk => wpAny_pyIter_enum he (begun_tx I1 he hit hk q)
theorem pi_enumK (hg : Gl X "enumerate") (hm : X.mg "enumerate" = none) (ha : PA X [e] ta) (hk : PK X [⟨some ("start" : Str), f, kpos⟩] tk) (hs : starEach [e] X.env = (false, eval e X.env) :: starEach [] X.env := by rfl)
    (hpl : ((backTo pos (starEach [e] X.env)).any (·.1) || (backToKw pos (keywordEach [⟨some ("start" : Str), f, kpos⟩] X.env)).any (·.1.isNone)) = false := by rfl) :
    PI X (.Tuple elts kk tpos) (.Call (.Name "enumerate" p) [e] [⟨some ("start" : Str), f, kpos⟩] pos) (iEnumK ta tk) := by
  refine ⟨fun pins s σ H R I h => wpAny_Call_Name_kw (ld_blt I hg hm boot_enumerate ?_)⟩
  refine PySem.W.callWith_of (P := fun _ => True) hpl (fun _ _ => ⟨.machine, .inr (.inl rfl), fun {A' Q' E' s'} _ z => wpAny_pure z⟩) (PyProof.Rows.evalArgs_kw2 (by rfl) (thn (ha.run pos pins s σ H _ I h) ?_) hs)
  rintro us s1 ⟨vs, H1, I1, r1, q⟩
  refine thn (hk.run pos pins s1 σ H1 _ I1 q) ?_
  rintro ws s2 ⟨zs, H2, I2, r2, x, k, rfl, rfl, k0, k1, q⟩
  refine ⟨trivial, ?_⟩
  obtain ⟨u, rfl, ru⟩ := vals1 r1
  obtain ⟨t, rfl⟩ := ru
  obtain ⟨u2, rfl, ru2⟩ := vals1 r2
  obtain ⟨t2, rfl⟩ := ru2
  refine enum_begins_start (begins_text x t) trivial k0 k1 fun h' he ho _ hk => wpAny_pyIter_enum he (begun_tx I2 he ⟨_, ho, rfl, rfl⟩ hk q)
end

/-! ### o.f |= e -/
def rOr : V → V → Hp → VK → Prop := fun x y H Q => ∃ i j, x = .int i ∧ y = .int j ∧ Q (.int (Builtin.bitOr i j)) H
theorem in_or {X : Cx} : InOp X .BitOr rOr := by
  rintro pins s σ H x y u v Q I rx ry ⟨i, j, rfl, rfl, q⟩
  obtain ⟨t, rfl⟩ := id rx
  obtain ⟨t', rfl⟩ := id ry
  exact PyProof.Rows.ior_int ⟨.int (Builtin.bitOr i j), H, I.tok _, ⟨_, rfl⟩, q⟩

/-! ### f(k = e, ..) -/
section
variable {X : Cx} {CX : CXT} {k : Nat} {f : Addr} {fd : FuncData} {ps ks : List Str} {sp : Sp} {E : XK} {x : Str} {p pos : Pos} {tk : TA} {g : List Value → List Value → List Value} {gV : List V → List V → List V} {kws : List Keyword}
theorem pe_callK0 (F : FnOk X.prog X.w X.K X.mg X.base CX k f fd ps sp) (hr : Room k X.A) (hg : Gl X x) (hm : X.mg x = some (.ref f)) (hk : PySem.W.keepIn X.K (.ref f) = true) (hb : KBinds X.K fd ps ks g gV) (hx : Passes CX X E) (hkw : PK X kws tk)
    (hall : (backToKw pos (keywordEach kws X.env)).all (·.1.isSome) = true := by rfl) (hks : (backToKw pos (keywordEach kws X.env)).filterMap (·.1) = ks := by rfl) (hdb : (x == ("__debug__" : Str)) = false := by decide)
    (hpl : ((backTo pos (starEach [] X.env)).any (·.1) || (backToKw pos (keywordEach kws X.env)).any (·.1.isNone)) = false := by rfl) :
    PE X (.Call (.Name x p) [] kws pos) (tCallK sp gV E tNil tk) := by
  refine ⟨fun pins s σ H Q I h => wpAny_Call_Name_kw (ld_glob I hg hm ?_ hdb)⟩
  refine PySem.W.callWith_KW0 (h₀ := X.base) I.ok.mod.kin hk hall (thn (hkw.run pos pins s σ H _ I h) ?_) hpl
  rintro ws s2 ⟨zs, H2, I2, rz, q⟩
  refine ⟨I2.kIn, ?_⟩
  rw [hks]
  exact run_fnk F hr hb hx I2 .nil rz q
end
end Gr

set_option Elab.async false
set_option maxRecDepth 100000
set_option maxHeartbeats 2000000
set_option linter.all false
/-! Ours: quiet code: expressions and small defs over data that leave all that stood as it was, whatever frames run around. -/
namespace Gr
open PySem PySem.Spec PyProof.Rows L2 GxR

/-- the value holds the data -/
def Vd (h : Heap) (v : Value) (d : PyData) : Prop := ∃ as, Reads h v d as
theorem Vd.up {h h' : Heap} {v : Value} {d : PyData} (r : Vd h v d) (k : ∀ b o, h.get? b = some o → h'.get? b = some o) : Vd h' v d := let ⟨as, r⟩ := r; ⟨as, PyProof.Rows.Reads.keeps k r⟩
inductive VdAll (h : Heap) : List Value → List PyData → Prop
  | nil : VdAll h [] []
  | cons {v : Value} {vs : List Value} {d : PyData} {ds : List PyData} : Vd h v d → VdAll h vs ds → VdAll h (v :: vs) (d :: ds)
theorem VdAll.up {h h' : Heap} (k : ∀ b o, h.get? b = some o → h'.get? b = some o) : ∀ {vs : List Value} {ds : List PyData}, VdAll h vs ds → VdAll h' vs ds
  | _, _, .nil => .nil
  | _, _, .cons a b => .cons (a.up k) (VdAll.up k b)
theorem VdAll.len {h : Heap} : ∀ {vs : List Value} {ds : List PyData}, VdAll h vs ds → vs.length = ds.length
  | _, _, .nil => rfl
  | _, _, .cons _ b => congrArg (· + 1) (VdAll.len b)
theorem VdAll.get {h : Heap} : ∀ {vs : List Value} {ds : List PyData}, VdAll h vs ds → ∀ {i : Nat} {d : PyData}, ds[i]? = some d → ∃ v, vs[i]? = some v ∧ Vd h v d
  | _, _, .nil, i, d, e => by cases e
  | _, _, .cons a b, 0, d, e => by cases e; exact ⟨_, rfl, a⟩
  | _, _, .cons a b, i + 1, d, e => VdAll.get b e
theorem vd_all {h : Heap} : ∀ {vs : List Value} {ds : List PyData} {as : List Addr}, ReadsAll h vs ds as → VdAll h vs ds
  | _, _, _, .nil => .nil
  | _, _, _, .cons a b => .cons ⟨_, a⟩ (vd_all b)
theorem kk {s s' : Shared} (k : Keeps s s') : ∀ b o, s.heap.get? b = some o → s'.heap.get? b = some o := by
  obtain ⟨h', tk, rfl, q⟩ := k
  exact q
theorem kt {s s' s'' : Shared} (k : Keeps s s') (k' : Keeps s' s'') : Keeps s s'' := by
  obtain ⟨h', tk, rfl, q⟩ := k
  obtain ⟨h2, t2, rfl, q2⟩ := k'
  exact ⟨h2, t2, rfl, fun b o e => q2 b o (q b o e)⟩
theorem Keeps.ns {s s' : Shared} (k : Keeps s s') {L : Addr} {m : Str → Option Value} (h : s.heap.Ns L m) : s'.heap.Ns L m := h.keeps (kk k)

/-- where quiet code stands -/
structure Qc (K : PySem.W.Frag) (mg : Str → Option Value) (base : Heap) (env : Env) : Prop where
  mod : Mod K mg base
  kind : env.scope.kind = .function
  glob : env.globals = mainGlobals
  blt : env.builtins = builtinsNs

/-- what quiet code asks of the state that it runs in -/
structure Qs (base h0 : Heap) (k : Nat) (env : Env) (m : Str → Option Value) (B : Around) (z : Shared) : Prop where
  room : Room k B
  bs : ∀ b o, base.get? b = some o → z.heap.get? b = some o
  up : ∀ b o, h0.get? b = some o → z.heap.get? b = some o
  ns : z.heap.Ns env.locals m
theorem Qs.next {base h0 : Heap} {k : Nat} {env : Env} {m : Str → Option Value} {B : Around} {z z' : Shared} (q : Qs base h0 k env m B z) (e : Keeps z z') : Qs base h0 k env m B z' :=
  ⟨q.room, fun b o x => kk e b o (q.bs b o x), fun b o x => kk e b o (q.up b o x), Keeps.ns e q.ns⟩

section
variable {P : Program} {w : World} {K : PySem.W.Frag} {mg : Str → Option Value} {base h0 : Heap} {k : Nat} {env : Env} {m : Str → Option Value}
/-- e tells d -/
def QE (P : Program) (w : World) (base h0 : Heap) (k : Nat) (env : Env) (m : Str → Option Value) (e : Expr) (d : PyData) : Prop :=
  ∀ (B : Around) (E : Value → Shared → Prop) (z : Shared), Qs base h0 k env m B z → wpAny (model P w) B (eval e env) (fun y z' => Vd z'.heap y d ∧ Keeps z z') E z
def QEs (P : Program) (w : World) (base h0 : Heap) (k : Nat) (env : Env) (m : Str → Option Value) (es : List Expr) (ds : List PyData) : Prop :=
  ∀ (B : Around) (E : Value → Shared → Prop) (z : Shared) (pos : Pos), Qs base h0 k env m B z → wpAny (model P w) B (spliced (backTo pos (starEach es env))) (fun us z' => VdAll z'.heap us ds ∧ Keeps z z') E z
theorem vd_bool {h : Heap} {y : Value} {b : Bool} (r : Vd h y (.bool b)) : y = .bool b := by
  obtain ⟨as, r⟩ := r
  cases r
  rfl
theorem vd_int {h : Heap} {y : Value} {i : Int} (r : Vd h y (.int i)) : ∃ t, y = .int i t := by
  obtain ⟨as, r⟩ := r
  cases r
  exact ⟨_, rfl⟩
theorem vd_tup {h : Heap} {y : Value} {ds : List PyData} (r : Vd h y (.tuple ds)) : ∃ t its, y = .ref t ∧ IsTup h t its ∧ VdAll h its.toList ds := by
  obtain ⟨as, r⟩ := r
  cases r with
  | tuple h1 h2 h3 h4 => exact ⟨_, _, rfl, ⟨_, h1, h2, _, h3⟩, vd_all h4⟩

theorem qe_name {x : Str} {p : Pos} {v : Value} {d : PyData} (C : Qc K mg base env) (hl : env.scope.names.lookup x = some .local) (hm : m x = some v) (hv : Vd h0 v d) (hd : (x == ("__debug__" : Str)) = false := by decide) :
    QE P w base h0 k env m (.Name x p) d := fun B E z q =>
  wpAny_Name (wpAny_loadName_local C.kind hl q.ns hm ⟨hv.up q.up, keeps_refl _⟩) hd
theorem qe_int {i : Int} {j : Nat} {p : Pos} : QE P w base h0 k env m (.Constant (.int i) j p) (.int i) := fun B E z q =>
  wpAny_Constant_int ⟨⟨_, .int _ _⟩, keeps_tok _ _⟩
theorem q_glob {B : Around} {E : Value → Shared → Prop} {z : Shared} {x : Str} {u : Value} {p : Pos} {Q : Value → Shared → Prop} (C : Qc K mg base env) (q : Qs base h0 k env m B z) (hg : env.scope.names.lookup x = some .globalImplicit) (hm : mg x = some u) (h : Q u z) (hd : (x == ("__debug__" : Str)) = false := by decide) :
    wpAny (model P w) B (eval (.Name x p) env) Q E z :=
  Calls.Name_function_global C.kind hg (Calls.loadGlobal_global (by rw [C.glob]; exact C.mod.glob.keeps q.bs) hm h) hd
theorem q_blt {B : Around} {E : Value → Shared → Prop} {z : Shared} {x : Str} {u : Value} {p : Pos} {Q : Value → Shared → Prop} (C : Qc K mg base env) (q : Qs base h0 k env m B z) (hg : env.scope.names.lookup x = some .globalImplicit) (hm : mg x = none) (hv : bootBuiltins x = some u) (h : Q u z)
    (hn : x ≠ "__name__" := by decide) (hd : (x == ("__debug__" : Str)) = false := by decide) : wpAny (model P w) B (eval (.Name x p) env) Q E z := by
  obtain ⟨mb, h1, h2⟩ := C.mod.blt
  exact Calls.Name_function_global C.kind hg (Calls.loadGlobal_builtin (by rw [C.glob]; exact C.mod.glob.keeps q.bs) hm (by rw [C.blt]; exact h1.keeps q.bs) ((h2 x hn).trans hv) h) hd
/-- a whole number of the module -/
theorem qe_gint {x : Str} {p : Pos} {i : Int} {t : Tok} (C : Qc K mg base env) (hg : env.scope.names.lookup x = some .globalImplicit) (hm : mg x = some (.int i t)) (hd : (x == ("__debug__" : Str)) = false := by decide) :
    QE P w base h0 k env m (.Name x p) (.int i) := fun B E z q => q_glob C q hg hm ⟨⟨_, .int _ _⟩, keeps_refl _⟩ hd

theorem qes_nil : QEs P w base h0 k env m [] [] := fun B E z pos q => Calls.spliced_nil ⟨.nil, keeps_refl _⟩
theorem qes_cons {e : Expr} {es : List Expr} {d : PyData} {ds : List PyData} (h1 : QE P w base h0 k env m e d) (h2 : QEs P w base h0 k env m es ds) (hs : starEach (e :: es) env = (false, eval e env) :: starEach es env := by rfl) :
    QEs P w base h0 k env m (e :: es) (d :: ds) := by
  intro B E z pos q
  rw [hs]
  show wpAny _ _ (spliced ((false, eval e env) :: backTo pos (starEach es env))) _ _ z
  refine Calls.spliced_cons (thn (h1 B E z q) fun u z1 ⟨r1, k1⟩ => ?_)
  exact thn (h2 B E z1 pos (q.next k1)) fun us z2 ⟨r2, k2⟩ => ⟨.cons (r1.up (kk k2)) r2, kt k1 k2⟩

/-- isinstance(e, T) -/
theorem qe_isi {e : Expr} {T : Str} {T' : String} {p1 p2 pos : Pos} {d : PyData} {f : PyData → Bool} (C : Qc K mg base env) (he : QE P w base h0 k env m e d) (hg : env.scope.names.lookup ("isinstance" : Str) = some .globalImplicit) (hm : mg "isinstance" = none)
    (hgT : env.scope.names.lookup T = some .globalImplicit) (hmT : mg T = none) (hvT : bootBuiltins T = some (.type T')) (hT1 : T ≠ "__name__") (hT2 : (T == ("__debug__" : Str)) = false)
    (hi : ∀ {A : Around} {E : Value → Shared → Prop} {s : Shared} {v : Value} {d : PyData} {as : List Addr} {Q : Value → Shared → Prop}, Reads s.heap v d as → (∀ tk, s.toks ≤ tk → Q (.bool (f d)) { s with toks := tk }) → wpAny (model P w) A (call (.builtin "isinstance") [v, .type T']) Q E s)
    (hb : bootBuiltins "isinstance" = some (.builtin "isinstance") := by decide +kernel)
    (hs : starEach [e, .Name T p2] env = (false, eval e env) :: starEach [.Name T p2] env := by rfl) (hs2 : starEach [.Name T p2] env = (false, eval (.Name T p2) env) :: starEach [] env := by rfl)
    (hpl : (backTo pos (starEach [.Name T p2] env)).any (·.1) = false := by rfl) :
    QE P w base h0 k env m (.Call (.Name "isinstance" p1) [e, .Name T p2] [] pos) (.bool (f d)) := by
  intro B E z q
  refine wpAny_Call_Name_kw (q_blt C q hg hm hb (PyProof.Rows.callWith_builtin1 ?_ hs hpl))
  rw [hs]
  show wpAny _ _ (spliced ((false, eval e env) :: backTo pos (starEach [.Name T p2] env))) _ _ z
  refine Calls.spliced_cons (thn (he B E z q) fun u z1 ⟨r1, k1⟩ => ?_)
  rw [hs2]
  show wpAny _ _ (spliced ((false, eval (.Name T p2) env) :: backTo pos (starEach [] env))) _ _ z1
  refine Calls.spliced_cons (q_blt C (q.next k1) hgT hmT hvT (Calls.spliced_nil ?_) hT1 hT2)
  obtain ⟨as, r1⟩ := r1
  exact hi r1 fun tk _ => ⟨⟨_, .bool _⟩, kt k1 (keeps_tok _ _)⟩
/-- len(e), e a tuple -/
theorem qe_len {e : Expr} {p1 pos : Pos} {ds : List PyData} (C : Qc K mg base env) (he : QE P w base h0 k env m e (.tuple ds)) (hg : env.scope.names.lookup ("len" : Str) = some .globalImplicit) (hm : mg "len" = none) (hl : ds.length ≤ sizeLine)
    (hs : starEach [e] env = (false, eval e env) :: starEach [] env := by rfl) (hpl : (backTo pos (starEach [] env)).any (·.1) = false := by rfl) :
    QE P w base h0 k env m (.Call (.Name "len" p1) [e] [] pos) (.int ds.length) := by
  intro B E z q
  refine wpAny_Call_Name_kw (q_blt C q hg hm PySem.boot_len (PyProof.Rows.callWith_builtin1 ?_ hs hpl))
  rw [hs]
  show wpAny _ _ (spliced ((false, eval e env) :: backTo pos (starEach [] env))) _ _ z
  refine Calls.spliced_cons (thn (he B E z q) fun u z1 ⟨r1, k1⟩ => Calls.spliced_nil ?_)
  obtain ⟨t, its, rfl, ht, ha⟩ := vd_tup r1
  have hn := line63
  have hz : its.size = ds.length := by
    have := ha.len
    rw [← this, Array.length_toList]
  refine len_tuple ht (by rw [hz]; omega) ⟨?_, kt k1 (keeps_tok _ _)⟩
  rw [hz]
  exact ⟨_, .int _ _⟩
/-- e[i] -/
theorem qe_ix {e : Expr} {i : Nat} {j : Nat} {p pos : Pos} {ds : List PyData} {d : PyData} (he : QE P w base h0 k env m e (.tuple ds)) (hi : ds[i]? = some d) (hl : ds.length ≤ sizeLine) : QE P w base h0 k env m (.Subscript e (.Constant (.int i) j p) pos) d := by
  intro B E z q
  refine Subscript_ (thn (he B E z q) fun u z1 ⟨r1, k1⟩ => wpAny_Constant_int ?_)
  obtain ⟨t, its, rfl, ht, ha⟩ := vd_tup r1
  have hn := line63
  have hz : its.size = ds.length := by
    have := ha.len
    rw [← this, Array.length_toList]
  obtain ⟨hi1, _⟩ := List.getElem?_eq_some_iff.mp hi
  obtain ⟨v, hv, rv⟩ := ha.get hi
  have hv' : its[i]? = some v := by rw [← Array.getElem?_toList]; exact hv
  have hj : seqIndex? (i : Int) its.size = some i := by
    unfold seqIndex?
    have h1 : ¬ ((i : Int) < 0) := by omega
    have h2 : (0 : Int) ≤ (i : Int) ∧ (i : Int) < (its.size : Int) := by omega
    simp [h1, h2]
  refine subscriptTail_builtinR (x := v) ht.typeIs slot_tuple_getitem.lookup (getItem_tuple (j := i) (Q := fun r s' => r = v ∧ (Vd s'.heap r d ∧ Keeps z s')) ht (by omega) (by omega) hj hv' ⟨rfl, rv, kt k1 (keeps_tok _ _)⟩)
/-- a op b of whole numbers -/
theorem qe_cmp {a b : Expr} {op : CmpOp} {i j : Int} {c : Int → Int → Bool} {pos : Pos} (ha : QE P w base h0 k env m a (.int i)) (hb : QE P w base h0 k env m b (.int j))
    (ho : ∀ {A : Around} {E : Value → Shared → Prop} {s : Shared} {t u : Tok} {Q : Value → Shared → Prop}, Q (.bool (c i j)) s → wpAny (model P w) A (compareOp op (.int i t) (.int j u)) Q E s) (hm : behindInMarks op b = false := by with_unfolding_all rfl) :
    QE P w base h0 k env m (.Compare a [op] [b] pos) (.bool (c i j)) := by
  intro B E z q
  refine wpAny_Compare1 (thn (ha B E z q) fun u z1 ⟨r1, k1⟩ => thn (hb B E z1 (q.next k1)) fun v z2 ⟨r2, k2⟩ => ?_) hm
  obtain ⟨t, rfl⟩ := vd_int r1
  obtain ⟨t', rfl⟩ := vd_int r2
  exact ho ⟨⟨_, .bool _⟩, kt k1 k2⟩
/-- a op b op' c -/
theorem qe_chain {a b c : Expr} {op op' : CmpOp} {i j l : Int} {f g : Int → Int → Bool} {pos : Pos} (ha : QE P w base h0 k env m a (.int i)) (hb : QE P w base h0 k env m b (.int j)) (hc : QE P w base h0 k env m c (.int l))
    (ho : ∀ {A : Around} {E : Value → Shared → Prop} {s : Shared} {t u : Tok} {Q : Value → Shared → Prop}, Q (.bool (f i j)) s → wpAny (model P w) A (compareOp op (.int i t) (.int j u)) Q E s)
    (ho' : ∀ {A : Around} {E : Value → Shared → Prop} {s : Shared} {t u : Tok} {Q : Value → Shared → Prop}, Q (.bool (g j l)) s → wpAny (model P w) A (compareOp op' (.int j t) (.int l u)) Q E s)
    (hm : lastMarks [op, op'] [b, c] = false := by with_unfolding_all rfl) : QE P w base h0 k env m (.Compare a [op, op'] [b, c] pos) (.bool (f i j && g j l)) := by
  intro B E z q
  refine Compare_chain (thn (ha B E z q) fun u z1 ⟨r1, k1⟩ => chain_link (thn (hb B E z1 (q.next k1)) fun v z2 ⟨r2, k2⟩ => ?_)) hm
  obtain ⟨t, rfl⟩ := vd_int r1
  obtain ⟨t', rfl⟩ := vd_int r2
  refine ho (wpAny_truthy_bool ?_)
  cases f i j with
  | false => exact ite_ff ⟨⟨_, .bool _⟩, kt k1 k2⟩
  | true =>
    refine ite_tt (chain_last (thn (hc B E z2 ((q.next k1).next k2)) fun x z3 ⟨r3, k3⟩ => ?_))
    obtain ⟨t3, rfl⟩ := vd_int r3
    refine ho' ⟨?_, kt k1 (kt k2 k3)⟩
    rw [Bool.true_and]
    exact ⟨_, .bool _⟩
theorem qe_one {e : Expr} {op : BoolOp} {pos : Pos} {d : PyData} (h : QE P w base h0 k env m e d) : QE P w base h0 k env m (.BoolOp op [e] pos) d := fun B E z q => BoolOp_one (h B E z q)
theorem qe_and {a b : Expr} {rest : List Expr} {x y : Bool} {pos : Pos} (ha : QE P w base h0 k env m a (.bool x)) (hb : x = true → QE P w base h0 k env m (.BoolOp .And (b :: rest) pos) (.bool y)) :
    QE P w base h0 k env m (.BoolOp .And (a :: b :: rest) pos) (.bool (x && y)) := by
  intro B E z q
  refine BoolOp_and (thn (ha B E z q) fun u z1 ⟨r1, k1⟩ => ?_)
  cases vd_bool r1
  refine wpAny_truthy_bool ?_
  cases x with
  | false => exact ite_ff ⟨⟨_, .bool _⟩, k1⟩
  | true => exact ite_tt (thn (hb rfl B E z1 (q.next k1)) fun v z2 ⟨r2, k2⟩ => ⟨r2, kt k1 k2⟩)
theorem qe_or {a b : Expr} {rest : List Expr} {x y : Bool} {pos : Pos} (ha : QE P w base h0 k env m a (.bool x)) (hb : x = false → QE P w base h0 k env m (.BoolOp .Or (b :: rest) pos) (.bool y)) :
    QE P w base h0 k env m (.BoolOp .Or (a :: b :: rest) pos) (.bool (x || y)) := by
  intro B E z q
  refine BoolOp_or (thn (ha B E z q) fun u z1 ⟨r1, k1⟩ => ?_)
  cases vd_bool r1
  refine wpAny_truthy_bool ?_
  cases x with
  | true => exact ite_tt ⟨⟨_, .bool _⟩, k1⟩
  | false => exact ite_ff (thn (hb rfl B E z1 (q.next k1)) fun v z2 ⟨r2, k2⟩ => ⟨r2, kt k1 k2⟩)
theorem qe_not {a : Expr} {x : Bool} {pos : Pos} (ha : QE P w base h0 k env m a (.bool x)) : QE P w base h0 k env m (.UnaryOp .Not a pos) (.bool (!x)) := by
  intro B E z q
  refine UnaryOp_ (thn (ha B E z q) fun u z1 ⟨r1, k1⟩ => ?_)
  cases vd_bool r1
  exact not_of (wpAny_truthy_bool ⟨⟨_, .bool _⟩, k1⟩)
end

/-- a quiet def: whatever runs around, it tells d of the data ds -/
structure QF (P : Program) (w : World) (K : PySem.W.Frag) (mg : Str → Option Value) (base : Heap) (k : Nat) (f : Addr) (fd : FuncData) (ps : List Str) (pre : List PyData → PyData → Prop) : Prop where
  len : ∀ ds d, pre ds d → ds.length = ps.length
  run : ∀ (B : Around) (z : Shared) (args : Args) (us : List Value) (ds : List PyData) (d : PyData), Room k B → (∀ b o, base.get? b = some o → z.heap.get? b = some o) → BindsTo z fd args (ps.zip us) → VdAll z.heap us ds → pre ds d →
    codeAny (model P w) B (.call (.ref f) args) (fun r z' => ∃ y, r = .ok (.ret y) ∧ Vd z'.heap y d ∧ Keeps z z') z
section
variable {P : Program} {w : World} {K : PySem.W.Frag} {mg : Str → Option Value} {base : Heap}
/-- a def of one return, by its expression -/
theorem qf_of {k : Nat} {x ql : Str} {st : Stmt} {f : Addr} {fd : FuncData} {ps : List Str} {pre : List PyData → PyData → Prop} {e : Expr} {pos : Pos} (M : Mod K mg base) (F : Fun K x ql st f fd) (S : FnScope ps ps (defScope st)) (loc : ∀ y ∈ ps, (defScope st).names.lookup y = some .local) (bd : defBody st = [.Return (some e) pos])
    (len : ∀ ds d, pre ds d → ds.length = ps.length)
    (hb : ∀ (env : Env) (m : Str → Option Value) (h0 : Heap) (us : List Value) (ds : List PyData) (d : PyData), env.scope = defScope st → Qc K mg base env → (∀ (i : Nat) (y : Str) (v : Value), ps[i]? = some y → us[i]? = some v → m y = some v) → VdAll h0 us ds → pre ds d → QE P w base h0 k env m e d) :
    QF P w K mg base (k + 1) f fd ps pre := by
  refine ⟨len, fun B z args us ds d hr hbs hbi hv hp => ?_⟩
  obtain ⟨oc, od, kV, doc, pm, an, cdv, ct, osl, rfl, lk, hcd⟩ := F.ex
  have KX : K.In z.heap := M.kin.keeps hbs
  have lim : z.heap.NoLimit := M.nolimit.keeps hbs
  have hlen := len _ _ hp
  have hul : us.length = ps.length := hv.len.trans hlen
  refine codeAny_call_function hr.depth (KX _ _ lk) rfl S.co S.gen rfl (PySem.W.codeRec_of KX hcd) (hbi _ _ _ _ ?_)
  refine wpAny_newFunctionEnv_cells S.kind (fun ⟨n, v⟩ hy => .inl (loc n (List.of_mem_zip hy).1)) fun env he s1 x => ?_
  subst he
  refine ⟨lim.keeps x.toInCall.keep, codeAny_func ?_⟩
  have hk : Keeps z s1 := x.done
  show wpAny _ _ (execs (defBody st) _) _ _ s1
  rw [bd]
  refine wpAny_execs_cons (wpAny_Return_some ?_)
  refine thn (hb _ _ z.heap us ds d rfl ⟨M, S.kind, rfl, rfl⟩ (fun i y v h1 h2 => bindL_get S.nd h1 h2 (loc y (List.mem_of_getElem? h1))) hv hp (B.deeper _) _ s1 ⟨hr.deeper _, fun b o q => kk hk b o (hbs b o q), kk hk, x.toInCall.ns⟩) fun y z2 ⟨r2, k2⟩ => ?_
  exact ⟨y, rfl, r2, kt hk k2⟩
/-- f(e, ..) of a quiet def -/
theorem qe_call {h0 : Heap} {k : Nat} {env : Env} {m : Str → Option Value} {x : Str} {f : Addr} {fd : FuncData} {ps : List Str} {pre : List PyData → PyData → Prop} {e : Expr} {es : List Expr} {ds : List PyData} {d : PyData} {p pos : Pos} (C : Qc K mg base env) (F : QF P w K mg base k f fd ps pre)
    (hg : env.scope.names.lookup x = some .globalImplicit) (hm : mg x = some (.ref f)) (hk : PySem.W.keepIn K (.ref f) = true) (hb : Binds K fd ps []) (ha : QEs P w base h0 k env m (e :: es) ds) (hp : pre ds d) (hdb : (x == ("__debug__" : Str)) = false := by decide)
    (he : starEach (e :: es) env = (false, eval e env) :: starEach es env := by rfl) (hpl : (backTo pos (starEach es env)).any (·.1) = false := by rfl) : QE P w base h0 k env m (.Call (.Name x p) (e :: es) [] pos) d := by
  intro B E z q
  refine wpAny_Call_Name_kw (q_glob C q hg hm (PySem.W.callWith_K (h₀ := base) C.mod.kin hk (thn (ha B E z pos q) fun us z1 ⟨r1, k1⟩ => ⟨C.mod.kin.keeps (q.next k1).bs, ?_⟩) he hpl) hdb)
  have hl : (us ++ []).length = ps.length := by
    rw [List.append_nil, r1.len]
    exact F.len _ _ hp
  refine wpAny_call (codeAny_mono (F.run B z1 ⟨us, []⟩ (us ++ []) ds d q.room (q.next k1).bs (hb z1 us (C.mod.kin.keeps (q.next k1).bs) hl) (by rw [List.append_nil]; exact r1) hp) fun r z2 h => ?_)
  obtain ⟨y, rfl, r2, k2⟩ := h
  exact ⟨r2, kt k1 k2⟩
end
end Gr

set_option Elab.async false
set_option maxRecDepth 100000
set_option maxHeartbeats 2000000
set_option linter.all false
/-! Ours: all(..), any(..) of a generator expression over a tuple whose element is quiet: it may call quiet defs. -/
namespace Gr
open PySem PySem.Spec PyProof.Rows L2 GxR
mutual
/-- data that is read does not stand at an object that is of no class -/
theorem reads_but {h h' : Heap} {P : Addr} {o0 : Obj} (k : ∀ b o, b ≠ P → h.get? b = some o → h'.get? b = some o) (p0 : h.get? P = some o0) (c0 : o0.cls = .none) : ∀ {v : Value} {d : PyData} {as : List Addr}, Reads h v d as → Reads h' v d as
  | _, _, _, .none => .none
  | _, _, _, .bool b => .bool b
  | _, _, _, .int i t => .int i t
  | _, _, _, .str x t => .str x t
  | _, _, _, .list h1 h2 h3 h4 => .list (k _ _ (fun e => by rw [e, p0] at h1; cases h1; rw [c0] at h2; cases h2) h1) h2 h3 (readsAll_but k p0 c0 h4)
  | _, _, _, .tuple h1 h2 h3 h4 => .tuple (k _ _ (fun e => by rw [e, p0] at h1; cases h1; rw [c0] at h2; cases h2) h1) h2 h3 (readsAll_but k p0 c0 h4)
  | _, _, _, .dict h1 h2 h3 h4 h5 => .dict (k _ _ (fun e => by rw [e, p0] at h1; cases h1; rw [c0] at h2; cases h2) h1) h2 h3 (readsAll_but k p0 c0 h4) (readsAll_but k p0 c0 h5)
theorem readsAll_but {h h' : Heap} {P : Addr} {o0 : Obj} (k : ∀ b o, b ≠ P → h.get? b = some o → h'.get? b = some o) (p0 : h.get? P = some o0) (c0 : o0.cls = .none) : ∀ {vs : List Value} {ds : List PyData} {as : List Addr}, ReadsAll h vs ds as → ReadsAll h' vs ds as
  | _, _, _, .nil => .nil
  | _, _, _, .cons a b => .cons (reads_but k p0 c0 a) (readsAll_but k p0 c0 b)
end
/-- a tuple's length has a bound -/
def szD : PyData → Prop
  | .tuple es => es.length ≤ sizeLine
  | _ => True
theorem DqAll.len {K : PySem.W.Frag} {H : Hp} {vs : List V} {ds : List PyData} (h : DqAll K H vs ds) : vs.length = ds.length :=
  DqAll.rec (motive_1 := fun _ _ _ => True) (motive_2 := fun vs ds _ => vs.length = ds.length) trivial (fun _ => trivial) (fun _ => trivial) (fun _ => trivial) (fun _ _ _ => trivial) (fun _ _ _ => trivial) (fun _ _ _ _ _ => trivial) rfl (fun _ _ _ ih => congrArg (· + 1) ih) h
/-- the element over the data d -/
def EltD (X : Cx) (k : Nat) (scope : Scope) (x : Str) (elt : Expr) (pb : PyData → Bool) : Prop :=
  ∀ (en : Env) (m : Str → Option Value) (h0 : Heap) (v : Value) (d : PyData), en.scope = scope → Qc X.K X.mg X.base en → m x = some v → Vd h0 v d → szD d → QE X.prog X.w X.base h0 k en m elt (.bool (pb d))
def trD (pb : PyData → Bool) (l : List PyData) (j : Nat) : Bool := match l[j]? with
  | some d => pb d
  | none => false
theorem trD_all (pb : PyData → Bool) : ∀ l : List PyData, (List.range l.length).all (trD pb l) = l.all pb
  | [] => rfl
  | d :: l => by
    have e : (d :: l).length = l.length + 1 := rfl
    rw [e, List.range_succ_eq_map, List.all_cons, List.all_map, List.all_cons, ← trD_all pb l]
    rfl
theorem trD_any (pb : PyData → Bool) : ∀ l : List PyData, (List.range l.length).any (trD pb l) = l.any pb
  | [] => rfl
  | d :: l => by
    have e : (d :: l).length = l.length + 1 := rfl
    rw [e, List.range_succ_eq_map, List.any_cons, List.any_map, List.any_cons, ← trD_any pb l]
    rfl
section
variable {X : Cx} {pins : List (Addr × Obj)} {σ : L2.St} {H : Hp} {s : Shared}
theorem Dq.sz (I : Inv X pins σ H s) {v : V} {d : PyData} (h : Dq X.K H v d) : szD d := by
  cases h with
  | tup hs ha =>
    obtain ⟨its, r, pl, hz⟩ := I.tuple hs
    show _ ≤ sizeLine
    rw [← ha.len]
    exact hz
  | _ => trivial
theorem DqAll.szs (I : Inv X pins σ H s) {vs : List V} {ds : List PyData} (h : DqAll X.K H vs ds) : ∀ d ∈ ds, szD d :=
  DqAll.rec (motive_1 := fun v d _ => szD d) (motive_2 := fun vs ds _ => ∀ d ∈ ds, szD d) trivial (fun _ => trivial) (fun _ => trivial) (fun _ => trivial) (fun _ _ _ => trivial) (fun hs ha _ => Dq.sz I (.tup hs ha)) (fun _ _ _ _ _ => trivial) (fun d hd => nomatch hd)
    (fun _ _ i1 i2 d hd => by
      rcases List.mem_cons.mp hd with e | e
      · rw [e]; exact i1
      · exact i2 d e) h
/-- the generator g over the data ds, ready to be walked -/
def ReadyD (X : Cx) (pins : List (Addr × Obj)) (σ : L2.St) (H1 : Hp) (P : Addr) (ds : List PyData) (pb : PyData → Bool) (g : Addr) (s5 : Shared) : Prop :=
  ∃ (fp wr : List Addr) (G : Array GenState → Array GenState → Prop) (F : Nat → Value → Prop) (S : Nat → Shared → Prop),
    WalksS X.prog X.w X.A.in1 g fp wr G ds.length F S ∧ S 0 s5 ∧ TruthOf X.prog X.w X.A.in1 F (trD pb ds) ∧ ∀ s', Moved wr G s5 s' → ∃ H2, Tabbed P H1 H2 ∧ Inv X pins σ H2 s'
theorem genD {c P : Addr} {elt iter : Expr} {x : Str} {px gpos : Pos} {scope : Scope} {pb : PyData → Bool} {te : TE} {k : Nat} {W : Value → Shared → Prop} {R : List PyData → Hp → Prop}
    (hr : Room (k + 1) X.A) (TB : TabB X.base X.mg c P) (hcode : X.env.code = .ref c) (S : GenS X.env scope x) (hi : PE X iter te) (hel : EltD X k scope x elt pb)
    (hs : ∀ v, genFold iter X.env v = pure v) (I : Inv X pins σ H s) (h : te σ H fun v H1 => ∃ ds, Dq X.K H1 v (.tuple ds) ∧ TabG H1 P ∧ R ds H1)
    (hQ : ∀ ds H1 g z, R ds H1 → ReadyD X pins σ H1 P ds pb g z → W (.ref g) z) :
    wpAny (model X.prog X.w) X.A (eval (.GeneratorExp elt [⟨.Name x px, iter, [], 0⟩] scope gpos) X.env) W X.xe s := by
  refine wpAny_GeneratorExp_walksQD hr.hd S.co (closure_ok S.free) S.cell S.dot S.loc S.kind hr.depth (thn (hi.run pins s σ H _ I h) ?_) hs
  rintro xv s1 ⟨v, H1, I1, r1, ds, hd, ⟨ps, hP, ht⟩, q1⟩
  obtain ⟨asv, rv, _⟩ := hd.reads I1 xv r1
  obtain ⟨tt, its, rfl, hit, hva⟩ := vd_tup ⟨asv, rv⟩
  have hsz : its.size = ds.length := by rw [← hva.len, Array.length_toList]
  have szs : ∀ d ∈ ds, szD d := by
    cases hd with
    | tup hs2 ha2 => exact DqAll.szs I1 ha2
  have tlt : tt < s1.heap.objs.size := let ⟨_, e, _⟩ := hit; Heap.lt_size e
  refine wpAny_pyIter_tuple hit ⟨I1.nolimit.push _, code_then I1 TB hcode hP ht fun cv h3 tk more up lt hp ht' lim => ?_⟩
  have p0 : s1.heap.get? P = some { cls := .none, data := .fields ps } := I1.hok P _ hP
  have pl : P < s1.heap.objs.size := Heap.lt_size p0
  have at1 : ∀ b, b ∈ [s1.heap.objs.size] → b = s1.heap.objs.size := fun b hb => List.mem_singleton.mp hb
  have cl : cStatics < s1.heap.objs.size := let ⟨_, n, _⟩ := I1.nolimit; n.lt
  have tP : tt ≠ P := fun e => by
    obtain ⟨o, e1, e2, _⟩ := hit
    rw [e, p0] at e1
    cases e1
    cases e2
  have up0 : ∀ b u, b ≠ P → s1.heap.get? b = some u → h3.get? b = some u := fun b u n e => up b u n (Heap.get?_push_of_some _ e)
  have tn : tt ≠ s1.heap.objs.size := Nat.ne_of_lt tlt
  refine ⟨s1.heap.objs.size, [s1.heap.objs.size, tt], [s1.heap.objs.size], its.size, (fun i v => its[i]? = some v), (fun i h => h.IsTupleIter s1.heap.objs.size tt i ∧ h.IsTuple tt its), fun _ => true, fun i y => ∃ d, ds[i]? = some d ∧ y = .bool (pb d), rfl,
    fun A' hh => Walks.tuple hh _ _ tn its, ⟨⟨_, up _ _ (fun e => ?_) (Heap.get?_push_size _ rfl), rfl, rfl⟩, ?_⟩, fun b hb => ?_, lim, fun z => ?_, fun href hh => ?_, ?_⟩
  · rw [← e] at pl
    exact Nat.lt_irrefl _ pl
  · obtain ⟨o, e1, e2⟩ := hit
    exact ⟨o, up0 _ _ tP e1, e2⟩
  · rcases List.mem_cons.mp hb with e | e
    · rw [e]; exact lt
    · rw [List.mem_singleton.mp e]
      exact Nat.lt_trans tlt lt
  · rw [at1 _ z] at cl
    exact Nat.lt_irrefl _ cl
  · constructor
    · intro B E' i v z m _ _ _ _ _ _ _
      rw [List.forIn_nil]
      exact wpAny_pure ⟨rfl, keeps_refl _⟩
    · intro B E' i v z m hB hD hU hv _ hn hm hk
      have hi2 : i < ds.length := by
        have := (Array.getElem?_eq_some_iff.mp hv).1
        omega
      have hdi : ds[i]? = some ds[i] := List.getElem?_eq_getElem hi2
      obtain ⟨v', hv', rv'⟩ := hva.get hdi
      have ev : v' = v := by
        rw [Array.getElem?_toList, hv] at hv'
        exact (Option.some.inj hv').symm
      rw [ev] at rv'
      have keepA : ∀ b o, b ≠ P → s1.heap.get? b = some o → z.heap.get? b = some o := fun b o nb e => by
        have lb : b < s1.heap.objs.size := Heap.lt_size e
        refine hk b (List.mem_range.mpr (Nat.lt_trans lb lt)) (fun q => ?_) _ (hh _ _ (up0 b o nb e))
        rw [at1 b q] at lb
        exact Nat.lt_irrefl _ lb
      have room : Room k B := ⟨hB, by have := hr.dp; omega, by have := hr.un; omega⟩
      -- what is read of the element stands in z's heap
      have rz : Vd z.heap v ds[i] := by
        obtain ⟨as2, r2⟩ := rv'
        exact ⟨as2, reads_but keepA p0 rfl r2⟩
      refine thn (hel _ m z.heap v ds[i] rfl ⟨I1.mod, S.kind, ?_, rfl⟩ hm rz (szs _ (List.getElem_mem hi2)) B E' z ⟨room, fun b o e => ?_, fun _ _ e => e, hn⟩) fun y z' r => ⟨⟨_, hdi, vd_bool r.1⟩, r.2⟩
      · exact I1.ok.glob
      · obtain ⟨e1, e2⟩ := I1.bs b o e
        exact keepA b o (fun q => by rw [q, hP] at e2; cases e2) e1
  · intro g h5 tk5 gs gb ag sz5 k5 W5 hat
    simp only [GxR.passing_true, List.length_range] at W5
    rw [hsz] at W5 hat
    refine hQ ds H1 g _ q1 ⟨_, _, _, _, _, W5.in4_1, hat, ?_, fun s' mv => ?_⟩
    · rintro j y z Q' E' ⟨i, hij, d, hd2, rfl⟩ q
      obtain ⟨hj, ej⟩ := List.getElem?_eq_some_iff.mp hij
      rw [List.getElem_range] at ej
      cases ej
      have q' : Q' (trD pb ds j) z := q
      unfold trD at q'
      rw [hd2] at q'
      exact wpAny_truthy_bool q'
    · have nw : ∀ b u, s1.heap.get? b = some u → b ∉ h3.objs.size :: [s1.heap.objs.size] := fun b u e hb => by
        have l := Heap.lt_size e
        have l2 : s1.heap.objs.size < h3.objs.size := lt
        rcases List.mem_cons.mp hb with z | z
        · rw [z] at l
          exact Nat.lt_asymm l l2
        · rw [at1 b z] at l
          exact Nat.lt_irrefl _ l
      have J := inv_tab (more := more) (h' := s'.heap) (g' := s'.gens) (d' := s'.drawn) (t' := s'.toks) I1 hP (fun b u n e => mv.heap b u (nw b u e) (k5 b u (up0 b u n e))) (mv.heap P _ (nw P _ p0) (k5 P _ hp)) (AllBare.movedS (I1.bare.push gb) mv)
      have es : ({ s1 with heap := s'.heap, gens := s'.gens, drawn := s'.drawn, toks := s'.toks } : Shared) = s' := by
        obtain ⟨_, _, _, _, _⟩ := s'
        have := mv.os
        dsimp only at this
        rw [this]
      rw [es] at J
      exact ⟨upd H1 P (.tbl (ps ++ more)), ⟨⟨_, upd_same, ht'⟩, fun b hb => upd_ne hb⟩, J⟩
def tAllD (K : PySem.W.Frag) (P : Addr) (pb : PyData → Bool) (te : TE) : TE := fun σ H Q => te σ H fun v H1 => ∃ ds, Dq K H1 v (.tuple ds) ∧ TabG H1 P ∧ ∀ H2, Tabbed P H1 H2 → Q (.bl (ds.all pb)) H2
/-- all(elt for x in e), e a tuple of data -/
theorem pe_allD {c P : Addr} {elt iter : Expr} {x : Str} {px p pos gpos : Pos} {scope : Scope} {pb : PyData → Bool} {te : TE} {k : Nat}
    (hr : Room (k + 1) X.A) (hg : Gl X "all") (hm : X.mg "all" = none) (TB : TabB X.base X.mg c P) (hcode : X.env.code = .ref c) (S : GenS X.env scope x) (hi : PE X iter te) (hel : EltD X k scope x elt pb)
    (hs : ∀ v, genFold iter X.env v = pure v)
    (he : starEach [.GeneratorExp elt [⟨.Name x px, iter, [], 0⟩] scope gpos] X.env = (false, eval (.GeneratorExp elt [⟨.Name x px, iter, [], 0⟩] scope gpos) X.env) :: starEach [] X.env := by rfl) :
    PE X (.Call (.Name "all" p) [.GeneratorExp elt [⟨.Name x px, iter, [], 0⟩] scope gpos] [] pos) (tAllD X.K P pb te) := by
  refine ⟨fun pins s σ H Q I h => wpAny_Call_Name_kw (ld_blt I hg hm boot_all (PyProof.Rows.callWith_builtin1 ?_ he (by rfl)))⟩
  rw [he]
  show wpAny _ _ (spliced ((false, eval (.GeneratorExp elt [⟨.Name x px, iter, [], 0⟩] scope gpos) X.env) :: backTo pos (starEach [] X.env))) _ _ s
  refine Calls.spliced_cons (genD (R := fun ds H1 => ∀ H2, Tabbed P H1 H2 → Q (.bl (ds.all pb)) H2) hr TB hcode S hi hel hs I h ?_)
  rintro ds H1 g z hR ⟨fp, wr, G, F, St, W, hst, htr, hI⟩
  refine Calls.spliced_nil (call_all_walkS (W.self 0 _ _ _ hst ⟨g, fp, wr, G, _, F, St, _, rfl, W, hst, htr, fun s' mv => ?_⟩))
  obtain ⟨H2, hT, J⟩ := hI s' mv
  rw [trD_all pb ds]
  exact ⟨.bl _, H2, J, rfl, hR H2 hT⟩
end
end Gr

set_option Elab.async false
set_option maxRecDepth 100000
set_option maxHeartbeats 4000000
set_option linter.all false
/-! Ours: texts as lists of signs. -/
namespace Gr
open PySem PySem.Spec PyProof.Rows L2
theorem same_upd {H : Hp} {a : Addr} {o : HO} (h : H a = none) : Same H (upd H a o) := fun b u e => by
  rw [upd_ne (ne_of_none e h)]
  exact e
theorem tx_ext {a b : Str} (h : a.cps.toList = b.cps.toList) : a = b := by
  obtain ⟨⟨x⟩⟩ := a
  obtain ⟨⟨y⟩⟩ := b
  cases (show x = y from h)
  rfl
theorem tx_len (z : Str) : z.length = z.cps.toList.length := rfl
theorem tx_app (a b : Str) : (a ++ b).cps.toList = a.cps.toList ++ b.cps.toList := by
  rw [PySem.Str.cps_append]
  exact Array.toList_append
theorem tx_starts (z : Str) (c : Nat) : Txt.startswith z ⟨#[c]⟩ = (z.cps.toList[0]? == some c) := by
  have e := PySem.StrLaws.subAt_one z c 0
  unfold Txt.startswith
  rw [Bool.eq_iff_iff, Bool.and_eq_true, decide_eq_true_eq, beq_iff_eq]
  exact e
theorem tx_last (z : Str) (h : 1 ≤ z.length) : z.cps.toList[z.length - 1]? = z.cps.toList.getLast? := by
  rw [List.getLast?_eq_getElem?]
  rfl
theorem tx_ends (z : Str) (c : Nat) : Txt.endswith z ⟨#[c]⟩ = (z.cps.toList.getLast? == some c) := by
  have e := PySem.StrLaws.subAt_one z c (z.length - 1)
  unfold Txt.endswith
  rw [Bool.eq_iff_iff, Bool.and_eq_true, decide_eq_true_eq, beq_iff_eq]
  have l1 : (⟨#[c]⟩ : Str).length = 1 := rfl
  rw [l1]
  rw [l1] at e
  constructor
  · rintro ⟨h1, h2⟩
    rw [← tx_last z (by omega)]
    exact e.mp ⟨by omega, h2⟩
  · intro h
    have hp : 1 ≤ z.length := by
      rw [tx_len]
      cases q : z.cps.toList with
      | nil =>
        rw [q] at h
        cases h
      | cons a r => simp
    rw [← tx_last z hp] at h
    have := e.mpr h
    exact ⟨by omega, this.2⟩
theorem tx_sub0 (z : Str) (n : Nat) : (Builtin.Str.strSub z 0 n).cps.toList = z.cps.toList.take n := by
  unfold Builtin.Str.strSub
  simp
theorem tx_suffix (z : Str) (c : Nat) : (Txt.removesuffix z ⟨#[c]⟩).cps.toList = if z.cps.toList.getLast? == some c then z.cps.toList.dropLast else z.cps.toList := by
  have e := tx_ends z c
  unfold Txt.endswith at e
  have l1 : (⟨#[c]⟩ : Str).length = 1 := rfl
  rw [l1] at e
  unfold Txt.removesuffix
  rw [l1]
  have e2 : (decide (1 ≤ z.length) && Builtin.Str.subAt z ⟨#[c]⟩ (z.length - 1)) = (z.cps.toList.getLast? == some c) := by
    rw [← e, Nat.zero_add]
  rw [e2]
  cases hq : z.cps.toList.getLast? == some c with
  | false => rfl
  | true =>
    have hp : 1 ≤ z.length := by
      rw [hq] at e2
      rw [Bool.and_eq_true, decide_eq_true_eq] at e2
      exact e2.1
    have ne : ¬ (z.length - 1 - 0 == z.length) = true := by
      rw [beq_iff_eq]
      omega
    show (if (z.length - 1 - 0 == z.length) = true then z else Builtin.Str.strSub z 0 (z.length - 1)).cps.toList = _
    rw [if_neg ne, tx_sub0, if_pos rfl, List.dropLast_eq_take]
    rfl
/-! slices -/
theorem cut_head (z : Str) : (cutS z none (some (-1))).cps.toList = z.cps.toList.dropLast := by
  unfold cutS
  show ((z.cps.toList.drop 0).take (HT.sIx z.length z.length (some (-1)) - 0)) = _
  rw [List.drop_zero, List.dropLast_eq_take, Nat.sub_zero]
  congr 1
  unfold HT.sIx
  rw [tx_len]
  simp
  omega
theorem cut_from (z : Str) (n : Nat) : (cutS z (some (n : Int)) none).cps.toList = z.cps.toList.drop n := by
  unfold cutS
  show ((z.cps.toList.drop (HT.sIx z.length 0 (some (n : Int)))).take (HT.sIx z.length z.length none - HT.sIx z.length 0 (some (n : Int)))) = _
  rw [HT.sIx_nat, HT.sIx_none, tx_len]
  by_cases h : n ≤ z.cps.toList.length
  · rw [Nat.min_eq_left h]
    exact List.take_of_length_le (by rw [List.length_drop]; exact Nat.le_refl _)
  · rw [Nat.min_eq_right (by omega), List.drop_of_length_le (Nat.le_refl _), List.drop_of_length_le (by omega), List.take_nil]
theorem cut_to (z : Str) (n : Nat) : (cutS z none (some (n : Int))).cps.toList = z.cps.toList.take n := by
  unfold cutS
  show ((z.cps.toList.drop 0).take (HT.sIx z.length z.length (some (n : Int)) - 0)) = _
  rw [List.drop_zero, HT.sIx_nat, tx_len, Nat.sub_zero]
  by_cases h : n ≤ z.cps.toList.length
  · rw [Nat.min_eq_left h]
  · rw [Nat.min_eq_right (by omega), List.take_of_length_le (Nat.le_refl _), List.take_of_length_le (by omega)]
theorem lit_slash : ("/" : Str) = ⟨#[47]⟩ := by decide +kernel
theorem lit_dollar : ("$" : Str) = ⟨#[36]⟩ := by decide +kernel
theorem lit_star : ("*" : Str) = ⟨#[42]⟩ := by decide +kernel
theorem str_eq_iff (a b : Str) : a = b ↔ a.cps.toList = b.cps.toList := ⟨fun e => by rw [e], tx_ext⟩
theorem one_inj {a b : Nat} : (⟨#[a]⟩ : Str) = ⟨#[b]⟩ ↔ a = b := by
  constructor
  · intro e
    have := congrArg (fun z : Str => z.cps.toList) e
    simpa using this
  · rintro rfl
    rfl
/-! heaps, comprehensions -/
theorem same_into {H H2 : Hp} {D : Addr} {o : HO} (hD : H D = none) (s : Same H H2) : Same H (upd H2 D o) := fun b u e => (upd_ne (ne_of_none e hD)).trans (s b u e)
theorem wipe1 {σ : L2.St} {j : Nat} {v : Option V} : wipe ((wipe σ [j]).set j v) [j] = wipe σ [j] := by simp [wipe]
/-- o.f within a comprehension's block -/
theorem pe_fldB {X : Cx} {s : Shared} {H : Hp} {sc : Scope} {en : Env} {fp : List Addr} {e : Expr} {f : Str} {pos : Pos} {ta : TE} (he : PE (X.blk s H sc en fp) e ta) (hb : attributeBase e f (X.blk s H sc en fp).env (eval e (X.blk s H sc en fp).env) = eval e (X.blk s H sc en fp).env) :
    PE (X.blk s H sc en fp) (.Attribute e f pos) (tFld X.K ta f) := pe_fld he hb
/-! parts that only look -/
theorem and_pure {ta tb : TE} {σ : L2.St} {H : Hp} {Q : VK} (c1 c2 : Bool) (h1 : ∀ Q' : VK, Q' (.bl c1) H → ta σ H Q') (h2 : c1 = true → ∀ Q' : VK, Q' (.bl c2) H → tb σ H Q') (q : Q (.bl (c1 && c2)) H) : tAndV ta tb σ H Q := by
  refine h1 _ ⟨c1, rfl, ?_⟩
  cases c1 with
  | true => exact if_pos rfl ▸ h2 rfl _ q
  | false => exact q
theorem or_pure {ta tb : TE} {σ : L2.St} {H : Hp} {Q : VK} (c1 c2 : Bool) (h1 : ∀ Q' : VK, Q' (.bl c1) H → ta σ H Q') (h2 : c1 = false → ∀ Q' : VK, Q' (.bl c2) H → tb σ H Q') (q : Q (.bl (c1 || c2)) H) : tOrV ta tb σ H Q := by
  refine h1 _ ⟨c1, rfl, ?_⟩
  cases c1 with
  | false => exact if_neg Bool.false_ne_true ▸ h2 rfl _ q
  | true => exact q
def tTruB (K : PySem.W.Frag) (te : TE) : TT := fun σ H Q => te σ H fun x H' => ∃ k, TruV K x H' k ∧ Q k H'
theorem pt_truthB {X : Cx} {s : Shared} {H : Hp} {sc : Scope} {en : Env} {fp : List Addr} {e : Expr} {te : TE} (he : PE (X.blk s H sc en fp) e te) (hi : ∀ whole, isTrue e (X.blk s H sc en fp).env whole = (do let v ← whole; standAt e.pos; holding [v] (truthy v))) :
    PT (X.blk s H sc en fp) e (tTruB X.K te) := pt_truth he hi
end Gr

set_option Elab.async false
set_option maxRecDepth 100000
set_option maxHeartbeats 4000000
set_option linter.all false
/-! Ours: zip of a list and a tuple. -/
namespace Gr
open PySem PySem.Spec PyProof.Rows L2

theorem paired_at {α β : Type} {r : α → β → Prop} : ∀ {xs : List α} {ys : List β}, Paired r xs ys → ∀ {i : Nat} {x : α}, xs[i]? = some x → ∃ y, ys[i]? = some y ∧ r x y
  | _, _, .nil, i, x, h => by cases h
  | _, _, .cons a b, 0, x, h => ⟨_, rfl, by cases h; exact a⟩
  | _, _, .cons a b, i + 1, x, h => paired_at b h
theorem paired_len {α β : Type} {r : α → β → Prop} : ∀ {xs : List α} {ys : List β}, Paired r xs ys → xs.length = ys.length
  | _, _, .nil => rfl
  | _, _, .cons a b => congrArg (· + 1) (paired_len b)
theorem plain_is {h : Heap} {a : Addr} {its : Array Value} (p : PlainL h a its) : h.IsList a its := let ⟨o, n, h1, h2, _, h4⟩ := p; ⟨o, h1, h2, n, h4⟩
theorem in5 {N c : Nat} (h : c ∈ [N + 4, N + 2, N + 3, N, N + 1]) : N ≤ c ∧ c ≤ N + 4 := by
  simp only [List.mem_cons, List.not_mem_nil, or_false] at h
  omega
/-- pairs of the list at a and the tuple at b -/
def ItzM (K : PySem.W.Frag) (a b : Addr) (xs ys : List V) : It :=
  ⟨fun i H => SqL K H a xs ∧ SqT K H b ys ∧ i < xs.length ∧ i < ys.length,
   fun i H v H' => ∃ T x y, v = .ref T ∧ H T = none ∧ H' = upd H T (.tup [x, y]) ∧ xs[i]? = some x ∧ ys[i]? = some y,
   fun i H => SqL K H a xs ∧ SqT K H b ys ∧ i ≤ xs.length ∧ i ≤ ys.length ∧ (i = xs.length ∨ i = ys.length)⟩
def YzM (xs ys : List V) : Nat → Hp → V → Hp → Prop := fun i H v H' => ∃ T x y, v = .ref T ∧ H T = none ∧ H' = upd H T (.tup [x, y]) ∧ xs[i]? = some x ∧ ys[i]? = some y
theorem walk_zipM {K : PySem.W.Frag} {a b : Addr} {xs ys : List V} {n : Nat} (h1 : n = xs.length) (h2 : n = ys.length) : Walk (ItzM K a b xs ys) n (fun H => SqL K H a xs ∧ SqT K H b ys) (YzM xs ys) :=
  ⟨fun i H hi q => ⟨q.1, q.2, by omega, by omega⟩, fun H q => ⟨q.1, q.2, by omega, by omega, .inl h1⟩, fun _ _ _ _ _ _ y => y⟩
theorem turn_zipM {P : Program} {w : World} {K : PySem.W.Frag} {elts : List Expr} {kk : Nat} {tpos : Pos} {a b : Addr} {xs ys : List V} {N : Nat} (ha : a < N) (hb : b < N) :
    Turn P w K (.Tuple elts kk tpos) (ItzM K a b xs ys) [N + 4, N + 2, N + 3, N, N + 1] (N + 4) (fun i h => IsZip h (N + 4) (N + 2) (N + 3) .none ∧ IsTupOf2 h (N + 2) (.ref N) (.ref (N + 1)) ∧ (∃ x y, IsTupOf2 h (N + 3) x y) ∧ h.IsListIter N a i ∧ h.IsTupleIter (N + 1) b i) where
  mem := List.mem_cons_self
  obj := by
    rintro i h ⟨hz, hTI, ⟨_, _, hTO⟩, ⟨o1, e1, _, d1⟩, ⟨o2, e2, _, d2⟩⟩ b hb
    simp only [List.mem_cons, List.not_mem_nil, or_false] at hb
    rcases hb with rfl | rfl | rfl | rfl | rfl
    · exact ⟨_, hz, fun v q => nomatch q⟩
    · exact ⟨_, hTI, fun v q => nomatch q⟩
    · exact ⟨_, hTO, fun v q => nomatch q⟩
    · exact ⟨_, e1, fun v q => by rw [d1] at q; cases q⟩
    · exact ⟨_, e2, fun v q => by rw [d2] at q; cases q⟩
  keep := by
    rintro i h h' ⟨hz, hTI, ⟨x, y, hTO⟩, ⟨o1, e1, r1⟩, ⟨o2, e2, r2⟩⟩ k
    exact ⟨k _ (by simp) _ hz, k _ (by simp) _ hTI, ⟨x, y, k _ (by simp) _ hTO⟩, ⟨o1, k _ (by simp) _ e1, r1⟩, ⟨o2, k _ (by simp) _ e2, r2⟩⟩
  item := by
    intro X hP hw hK hc i pins s σ H E I hf st hg
    subst hP hw hK
    obtain ⟨hz, hTI, ⟨x, y, hTO⟩, it1, it2⟩ := st
    obtain ⟨hL, hT, l1, l2⟩ := hg
    obtain ⟨v1, r1, p1, m1⟩ := I.list hL
    obtain ⟨v2, r2, p2, m2⟩ := I.tuple hT
    have g1 : xs[i]? = some xs[i] := List.getElem?_eq_getElem l1
    have g2 : ys[i]? = some ys[i] := List.getElem?_eq_getElem l2
    obtain ⟨u1, w1, q1⟩ := paired_at r1 g1
    obtain ⟨u2, w2, q2⟩ := paired_at r2 g2
    have n1 : i < v1.toArray.size := by rw [List.size_toArray, ← paired_len r1]; exact l1
    have n2 : i < v2.toArray.size := by rw [List.size_toArray, ← paired_len r2]; exact l2
    have sep := zip_sep2 (N := N) (fp1 := [a]) (fp2 := [b]) (fun c hc => by rw [List.mem_singleton.mp hc]; exact ha) (fun c hc => by rw [List.mem_singleton.mp hc]; exact hb)
    have zl : N + 4 < s.heap.objs.size := Heap.lt_size hz
    refine wpAny_pyNext_zipD2_item sep (Draws.list (A := X.A.in1) (I.ok.hd hc) N a (Nat.ne_of_lt ha) v1.toArray) (Draws.tuple (A := X.A.in1) (I.ok.hd hc) (N + 1) b (Nat.ne_of_lt (Nat.lt_succ_of_lt hb)) v2.toArray)
      hz hTI hTO ⟨it1, ?_⟩ ⟨it2, ?_⟩ n1 n2 fun x1 x2 h' tk e1 e2 hz' hTO' st1 st2 hT' hs' hk => ?_
    · exact plain_is p1
    · exact p2
    have ex1 : x1 = u1 := by
      have : v1[i]? = some x1 := (List.getElem?_toArray (xs := v1) (i := i)).symm.trans e1
      rw [w1] at this
      exact (Option.some.inj this).symm
    have ex2 : x2 = u2 := by
      have : v2[i]? = some x2 := (List.getElem?_toArray (xs := v2) (i := i)).symm.trans e2
      rw [w2] at this
      exact (Option.some.inj this).symm
    refine ⟨_, rfl, wpAny_letOwnedTupleGo_zip hz' fun h'' hz'' sb => ?_⟩
    have nT : s.heap.objs.size ≠ N + 4 := Nat.ne_of_gt zl
    have hT2 : h''.get? s.heap.objs.size = some { cls := .type "tuple", data := .seq #[x1, x2] } := (sb.2 _ nT).trans hT'
    have new : ObjOk X.prog X.w (upd H s.heap.objs.size (.tup [xs[i], ys[i]])) h'' s.heap.objs.size (.tup [xs[i], ys[i]]) :=
      ⟨by show 2 ≤ sizeLine; decide, _, .cons (ex1 ▸ q1) (.cons (ex2 ▸ q2) .nil), ⟨_, hT2, rfl, _, rfl⟩⟩
    have I1 : Inv X pins σ (upd H s.heap.objs.size (.tup [xs[i], ys[i]])) { s with heap := h'', toks := tk } := by
      refine I.turnedNew (ch := [N + 4, N + 2, N + 3, N, N + 1]) (fun b ob hb q => ?_) hf (Nat.le_refl _) new
      simp only [List.mem_cons, List.not_mem_nil, or_false, not_or] at hb
      exact (sb.2 b hb.1).trans (hk b ob hb.1 hb.2.2.1 hb.2.2.2.1 hb.2.2.2.2 q)
    have tInz : N + 2 ≠ N + 4 := by omega
    have n23 : N + 2 ≠ N + 3 := by omega
    have n20 : N + 2 ≠ N := by omega
    have n21 : N + 2 ≠ N + 1 := by omega
    have tOnz : N + 3 ≠ N + 4 := by omega
    have i1nz : N ≠ N + 4 := by omega
    have i2nz : N + 1 ≠ N + 4 := by omega
    refine ⟨.ref s.heap.objs.size, _, I1, rfl, ⟨_, _, _, rfl, I.hok.fresh (Nat.le_refl _), rfl, g1, g2⟩, ⟨hz'', ?_, ⟨x1, x2, (sb.2 _ tOnz).trans hTO'⟩, ?_, ?_⟩, fun c hc => ?_⟩
    · exact (sb.2 _ tInz).trans (hk _ _ tInz n23 n20 n21 hTI)
    · obtain ⟨o, q, r⟩ := st1.1
      exact ⟨o, (sb.2 _ i1nz).trans q, r⟩
    · obtain ⟨o, q, r⟩ := st2.1
      exact ⟨o, (sb.2 _ i2nz).trans q, r⟩
    · have lc : c < s.heap.objs.size := Nat.lt_of_le_of_lt (in5 hc).2 zl
      rw [upd_ne (Nat.ne_of_lt lc)]
      exact (hf c hc).1
  done := by
    intro X hP hw hK hc i pins s σ H E I hf st hg
    subst hP hw hK
    obtain ⟨hz, hTI, ⟨x, y, hTO⟩, it1, it2⟩ := st
    obtain ⟨hL, hT, l1, l2, e⟩ := hg
    obtain ⟨v1, r1, p1, m1⟩ := I.list hL
    obtain ⟨v2, r2, p2, m2⟩ := I.tuple hT
    have s1 : v1.toArray.size = xs.length := by rw [List.size_toArray, ← paired_len r1]
    have s2 : v2.toArray.size = ys.length := by rw [List.size_toArray, ← paired_len r2]
    have sep := zip_sep2 (N := N) (fp1 := [a]) (fp2 := [b]) (fun c hc => by rw [List.mem_singleton.mp hc]; exact ha) (fun c hc => by rw [List.mem_singleton.mp hc]; exact hb)
    refine wpAny_pyNext_zipD2_end sep (Draws.list (A := X.A.in1) (I.ok.hd hc) N a (Nat.ne_of_lt ha) v1.toArray) (Draws.tuple (A := X.A.in1) (I.ok.hd hc) (N + 1) b (Nat.ne_of_lt (Nat.lt_succ_of_lt hb)) v2.toArray)
      hz hTI hTO ⟨it1, ?_⟩ ⟨it2, ?_⟩ (by omega) (by omega) (by omega) fun h' tk hk => ⟨rfl, I.turnedL (ch := [N + 4, N + 2, N + 3, N, N + 1]) (fun c o hc q => ?_) hf⟩
    · exact plain_is p1
    · exact p2
    · simp only [List.mem_cons, List.not_mem_nil, or_false, not_or] at hc
      exact hk c o hc.1 hc.2.2.1 hc.2.2.2.1 hc.2.2.2.2 q
  self := fun A i s Q E ⟨hz, _⟩ h => wpAny_pyIter_zip hz h
/-- zip(xs, ys), a list and a tuple -/
def iZipM (K : PySem.W.Frag) (ta : TA) : TI := fun σ H R => ta σ H fun vs H1 => ∃ a b xs ys, vs = [.ref a, .ref b] ∧ SqL K H1 a xs ∧ SqT K H1 b ys ∧ R (ItzM K a b xs ys) H1
section
variable {X : Cx} {e e2 : Expr} {ta : TA} {p pos tpos : Pos} {elts : List Expr} {kk : Nat}
theorem pi_zipM (hg : Gl X "zip") (hm : X.mg "zip" = none) (ha : PA X [e, e2] ta) (hs : starEach [e, e2] X.env = (false, eval e X.env) :: starEach [e2] X.env := by rfl) (hpl : ((backTo pos (starEach [e2] X.env)).any (·.1)) = false := by rfl) :
    PI X (.Tuple elts kk tpos) (.Call (.Name "zip" p) [e, e2] [] pos) (iZipM X.K ta) := by
  refine ⟨fun pins s σ H R I h => Call_ (ld_blt I hg hm boot_zip (PyProof.Rows.callWith_type1 (thn (ha.run pos pins s σ H _ I h) ?_) hs hpl))⟩
  rintro us s1 ⟨vs, H1, I1, r1, a, b, xs, ys, rfl, hL, hT, q⟩
  obtain ⟨v1, q1, p1, m1⟩ := I1.list hL
  obtain ⟨v2, q2, p2, m2⟩ := I1.tuple hT
  match us, r1 with
  | _, .cons (b := _) e1 (.cons (b := _) e2 .nil) =>
  cases e1
  cases e2
  have la : a < s1.heap.objs.size := let ⟨_, _, e, _⟩ := p1; Heap.lt_size e
  have lb : b < s1.heap.objs.size := let ⟨_, e, _⟩ := p2; Heap.lt_size e
  refine zip_begins2 (begins_list a v1.toArray) (begins_tuple b v2.toArray) ?_ ?_ fun h' hz hTI hTO e1 e2 hs hk => wpAny_pyIter_zip hz ⟨_, [s1.heap.objs.size + 4, s1.heap.objs.size + 2, s1.heap.objs.size + 3, s1.heap.objs.size, s1.heap.objs.size + 1], _, _, H1, rfl, I1.kept (t' := s1.toks) hk, turn_zipM (xs := xs) (ys := ys) la lb, ⟨hz, hTI, ⟨_, _, hTO⟩, ⟨_, e1, rfl, rfl⟩, ⟨_, e2, rfl, rfl⟩⟩, fun c hc => ?_, q⟩
  · exact plain_is p1
  · exact p2
  · have lc : s1.heap.objs.size ≤ c := (in5 hc).1
    exact I1.fpOk lc (I1.hok.fresh lc)
end
end Gr

set_option Elab.async false
set_option maxRecDepth 100000
set_option maxHeartbeats 4000000
set_option linter.all false
/-! Ours: xs < ys of lists; (n, s) < (m, t) of tuples of an int and a text. -/
namespace Gr
open PySem PySem.Spec PyProof.Rows L2
theorem l_items {M : Model} {A : Around} {E : Value → Shared → Prop} {s : Shared} {l : Addr} {items : Array Value} {n : Nat} {dd : Option Addr} {sl : Array (Option Value)} {Q : Array Value → Shared → Prop}
    (hl : s.heap.get? l = some { cls := .type "list", dict := dd, data := .seq items n, slots := sl }) (q : Q items s) : wpAny M A (Builtin.List.listItems (.ref l)) Q E s := by
  obtain ⟨hp, g, d, tk, os⟩ := s
  unfold Builtin.List.listItems
  refine wpAny_bind ?_
  unfold seqItems?
  exact wpAny_bind (wpAny_load' hl (wpAny_pure (wpAny_pure q)))
theorem lt_loopAt (l b : Addr) (items items2 : Array Value) (n n2 : Nat) (dd dd2 : Option Addr) (sl sl2 : Array (Option Value)) (e r : Nat → Bool) :
    ∀ (k i : Nat), i + k = min items.size items2.size → Meets (Builtin.«list.__eq__.loop» { pos := [.ref l, .ref b, rawInt (i : Nat), rawInt 0] }) fun A R s =>
      s.heap.get? l = some { cls := .type "list", dict := dd, data := .seq items n, slots := sl } ∧ s.heap.get? b = some { cls := .type "list", dict := dd2, data := .seq items2 n2, slots := sl2 } ∧
        (∀ (j : Nat) (h1 : j < items.size) (h2 : j < items2.size), SeqAt.EqAt A.in1 s items[j] items2[j] (e j)) ∧
        (∀ (j : Nat) (h1 : j < items.size) (h2 : j < items2.size), e j = false → Ob.RcOp .Lt A.in1 s items[j] items2[j] (r j)) ∧
          R (.ok (.ret (.bool (Ob.lexAt e r (decide (items.size < items2.size)) i k)))) s
  | 0, i, hk => by
    rintro prog w A R s ⟨hl, hb, he, hr, h⟩
    refine wpAny_bind (l_items hl (wpAny_bind (l_items hb ?_)))
    have fin : wpAny (model prog w) A.in1 (do
        let xs ← Builtin.List.listItems (.ref l)
        let ys ← Builtin.List.listItems (.ref b)
        ret (.bool (decide (xs.size < ys.size)))) (fun fin s' => match fin with
          | .done f => R (.ok f) s'
          | .again c' => c'.quiet = true ∧ codeAny (model prog w) A c' R s') (fun e s' => R (.error e) s') s :=
      wpAny_bind (l_items hl (wpAny_bind (l_items hb (wpAny_pure h))))
    by_cases q : items.size ≤ i
    · have e1 : items[((i : Nat) : Int).toNat]? = none := Array.getElem?_eq_none q
      rw [e1]
      exact fin
    · have e1 : items[((i : Nat) : Int).toNat]? = some items[i] := Array.getElem?_eq_getElem (by omega)
      have e2 : items2[((i : Nat) : Int).toNat]? = none := Array.getElem?_eq_none (show items2.size ≤ i by omega)
      rw [e1, e2]
      exact fin
  | k + 1, i, hk => by
    rintro prog w A R s ⟨hl, hb, he, hr, h⟩
    refine wpAny_bind (l_items hl (wpAny_bind (l_items hb ?_)))
    have h1 : i < items.size := by omega
    have h2 : i < items2.size := by omega
    have e1 : items[((i : Nat) : Int).toNat]? = some items[i] := Array.getElem?_eq_getElem h1
    have e2 : items2[((i : Nat) : Int).toNat]? = some items2[i] := Array.getElem?_eq_getElem h2
    rw [e1, e2]
    refine wpAny_bind (he i h1 h2 prog w _ _ ?_)
    rw [Ob.lexAt_succ] at h
    cases hc : e i with
    | true =>
      rw [hc] at h
      have hs : (((i : Nat) : Int) + 1) = ((i + 1 : Nat) : Int) := rfl
      refine wpAny_pure ⟨plainId_quiet MeetsSeq3.plain_eq_loop _, codeAny_builtin MeetsSeq3.entry_eq_loop ?_⟩
      have := lt_loopAt l b items items2 n n2 dd dd2 sl sl2 e r k (i + 1) (by omega) prog w A R s ⟨hl, hb, he, hr, h⟩
      exact this
    | false =>
      rw [hc] at h
      refine wpAny_bind (l_items hl (wpAny_bind (l_items hb ?_)))
      rw [e1, e2]
      exact wpAny_bind (hr i h1 h2 hc prog w _ _ (wpAny_pure h))
theorem list_ltAt (l b : Addr) (items items2 : Array Value) (n n2 : Nat) (dd dd2 : Option Addr) (sl sl2 : Array (Option Value)) (e r : Nat → Bool) :
    Meets (Builtin.«list.__lt__» { pos := [.ref l, .ref b] }) fun A R s =>
      s.heap.get? l = some { cls := .type "list", dict := dd, data := .seq items n, slots := sl } ∧ s.heap.get? b = some { cls := .type "list", dict := dd2, data := .seq items2 n2, slots := sl2 } ∧
        (∀ (j : Nat) (h1 : j < items.size) (h2 : j < items2.size), SeqAt.EqAt A.in1 s items[j] items2[j] (e j)) ∧
        (∀ (j : Nat) (h1 : j < items.size) (h2 : j < items2.size), e j = false → Ob.RcOp .Lt A.in1 s items[j] items2[j] (r j)) ∧
          R (.ok (.ret (.bool (Ob.lexAt e r (decide (items.size < items2.size)) 0 (min items.size items2.size))))) s := by
  rintro prog w A R ⟨hp, g, d, tk, os⟩ ⟨hl, hb, he, hr, h⟩
  have f3 := AutoSeq1.sub_list_list
  refine wpAny_bind ?_
  unfold slotArgs
  refine wpAny_ite_false rfl (wpAny_ite_false rfl (wpAny_pure ?_))
  refine wpAny_bind (wpAny_bind (wpAny_bind (wpAny_loadPart' hb (wpAny_pure (wpAny_of_eq f3 ?_)))))
  refine wpAny_ite_false rfl (wpAny_ite_false rfl ?_)
  refine wpAny_pure ⟨plainId_quiet MeetsSeq3.plain_eq_loop _, codeAny_builtin MeetsSeq3.entry_eq_loop ?_⟩
  exact lt_loopAt l b items items2 n n2 dd dd2 sl sl2 e r _ 0 (Nat.zero_add _) prog w A R _ ⟨hl, hb, he, hr, h⟩
theorem lists_lt {A : Around} {s : Shared} {l b : Addr} {items items2 : Array Value} {e r : Nat → Bool} (hl : s.heap.IsList l items) (hb : s.heap.IsList b items2) (hu : A.units < cLine)
    (he : ∀ (j : Nat) (h1 : j < items.size) (h2 : j < items2.size), SeqAt.EqAt A.in1 s items[j] items2[j] (e j))
    (hr : ∀ (j : Nat) (h1 : j < items.size) (h2 : j < items2.size), e j = false → Ob.RcOp .Lt A.in1 s items[j] items2[j] (r j)) :
    Ob.RcOp .Lt A s (.ref l) (.ref b) (Ob.lexAt e r (decide (items.size < items2.size)) 0 (min items.size items2.size)) := by
  intro prog w E Q h
  obtain ⟨⟨cls, dd, data, sl⟩, ho, hc, n, hd⟩ := id hl
  obtain ⟨⟨cls2, dd2, data2, sl2⟩, ho2, hc2, n2, hd2⟩ := id hb
  dsimp only at hc hd hc2 hd2
  subst hc hd hc2 hd2
  exact richCompare_meets_room ⟨_, ho, rfl⟩ ⟨_, ho2, rfl⟩ F.slot_list_lt F.entry_list_lt (F.args_list_lt_2 (.ref l) (.ref b)) (list_ltAt l b items items2 n n2 dd dd2 sl sl2 e r) ⟨ho, ho2, he, hr, ⟨(fun x => nomatch x), h⟩⟩ hu
theorem rc_str {A : Around} {s : Shared} (x y : Str) (t u : Tok) : Ob.RcOp .Lt A s (.str x t) (.str y u) (decide (x.cps.toList < y.cps.toList)) := fun _ _ _ _ h => PySem.P.lt_str h
theorem lexAt_ints (ns ms : List Int) : ∀ (k i : Nat), i + k = min ns.length ms.length →
    Ob.lexAt (fun j => ns.getD j 0 == ms.getD j 0) (fun j => decide (ns.getD j 0 < ms.getD j 0)) (decide (ns.length < ms.length)) i k = HT.lexLt (ns.drop i) (ms.drop i)
  | 0, i, h => by
    rw [Ob.lexAt_zero]
    by_cases q : ns.length ≤ i
    · rw [List.drop_of_length_le q]
      by_cases q2 : ms.length ≤ i
      · rw [List.drop_of_length_le q2, HT.lexLt_nil_nil]
        exact decide_eq_false (by omega)
      · rw [List.drop_eq_getElem_cons (Nat.lt_of_not_le q2), HT.lexLt_nil_cons]
        exact decide_eq_true (by omega)
    · rw [List.drop_eq_getElem_cons (Nat.lt_of_not_le q), List.drop_of_length_le (show ms.length ≤ i by omega), HT.lexLt_cons_nil]
      exact decide_eq_false (by omega)
  | k + 1, i, h => by
    have h1 : i < ns.length := by omega
    have h2 : i < ms.length := by omega
    have e1 : ns.getD i 0 = ns[i] := by rw [List.getD_eq_getElem?_getD, List.getElem?_eq_getElem h1]; rfl
    have e2 : ms.getD i 0 = ms[i] := by rw [List.getD_eq_getElem?_getD, List.getElem?_eq_getElem h2]; rfl
    rw [Ob.lexAt_succ, List.drop_eq_getElem_cons h1, List.drop_eq_getElem_cons h2, HT.lexLt_cons, lexAt_ints ns ms k (i + 1) (by omega), e1, e2]
    by_cases q : ns[i] = ms[i]
    · rw [if_pos (by simp [q]), if_pos q]
    · rw [if_neg (by simp [q]), if_neg q]
/-- xs < ys, lists of ints -/
def rLtL (K : PySem.W.Frag) : R2 := fun x y H Q => ∃ a b ns ms, x = .ref a ∧ y = .ref b ∧ SqL K H a (ns.map V.int) ∧ SqL K H b (ms.map V.int) ∧ Q (.bl (HT.lexLt ns ms)) H
theorem op_ltL {X : Cx} (hu : X.A.units < cLine) : OpR X (compareOp .Lt) (rLtL X.K) := by
  rintro pins s σ H x y v u Q I rx ry ⟨a, b, ns, ms, rfl, rfl, ha, hb, q⟩
  cases (show v = Value.ref a from rx)
  cases (show u = Value.ref b from ry)
  obtain ⟨v1, r1, p1, m1⟩ := I.list ha
  obtain ⟨v2, r2, p2, m2⟩ := I.list hb
  have i1 := L2.intsAre_of r1
  have i2 := L2.intsAre_of r2
  have l1 : v1.toArray.size = ns.length := by rw [List.size_toArray, ← paired_len r1, List.length_map]
  have l2 : v2.toArray.size = ms.length := by rw [List.size_toArray, ← paired_len r2, List.length_map]
  have at1 : ∀ (j : Nat) (h : j < v1.toArray.size), ∃ t, v1.toArray[j] = Value.int (ns.getD j 0) t := fun j h => i1.int_at j _ (by simp)
  have at2 : ∀ (j : Nat) (h : j < v2.toArray.size), ∃ t, v2.toArray[j] = Value.int (ms.getD j 0) t := fun j h => i2.int_at j _ (by simp)
  have R := lists_lt (A := X.A) (s := s) (e := fun j => ns.getD j 0 == ms.getD j 0) (r := fun j => decide (ns.getD j 0 < ms.getD j 0)) (plain_is p1) (plain_is p2) hu
    (fun j h1 h2 => by
      obtain ⟨t, e1⟩ := at1 j h1
      obtain ⟨t2, e2⟩ := at2 j h2
      rw [e1, e2]
      exact SeqAt.EqAt.int_int _ _ _ _)
    (fun j h1 h2 _ => by
      obtain ⟨t, e1⟩ := at1 j h1
      obtain ⟨t2, e2⟩ := at2 j h2
      rw [e1, e2]
      exact Ob.RcOp.lt_int _ _ _ _)
  rw [l1, l2, lexAt_ints ns ms _ 0 (Nat.zero_add _)] at R
  exact R X.prog X.w X.xe (EP X pins σ Q) ⟨.bl _, H, I, rfl, q⟩
theorem two_vals {x y : V} {us : List Value} (h : Vals [x, y] us) : ∃ a b, us = [a, b] ∧ RelV x a ∧ RelV y b := by
  cases h with
  | cons a b =>
    cases b with
    | cons b c =>
      cases c
      exact ⟨_, _, rfl, a, b⟩
/-- (n, s) < (m, t) -/
def rLtP (K : PySem.W.Frag) : R2 := fun x y H Q => ∃ a b n m p r, x = .ref a ∧ y = .ref b ∧ SqT K H a [.int n, .str p] ∧ SqT K H b [.int m, .str r] ∧ Q (.bl (if n = m then decide (p.cps.toList < r.cps.toList) else decide (n < m))) H
theorem op_ltP {X : Cx} (hu : X.A.units < cLine) : OpR X (compareOp .Lt) (rLtP X.K) := by
  rintro pins s σ H x y v u Q I rx ry ⟨a, b, n, m, p, r, rfl, rfl, ha, hb, q⟩
  cases (show v = Value.ref a from rx)
  cases (show u = Value.ref b from ry)
  obtain ⟨v1, r1, p1, m1⟩ := I.tuple ha
  obtain ⟨v2, r2, p2, m2⟩ := I.tuple hb
  obtain ⟨x1, x2, rfl, f1, f2⟩ := two_vals r1
  obtain ⟨y1, y2, rfl, g1, g2⟩ := two_vals r2
  obtain ⟨t1, rfl⟩ := f1
  obtain ⟨t2, rfl⟩ := f2
  obtain ⟨t3, rfl⟩ := g1
  obtain ⟨t4, rfl⟩ := g2
  have R := Ob.RcOp.tuples_lt (A := X.A) (s := s) (e := fun j => if j = 0 then n == m else p == r) (r := fun j => if j = 0 then decide (n < m) else decide (p.cps.toList < r.cps.toList)) p1 p2 hu
    (fun j h1 h2 => by
      rcases j with _ | _ | j
      · exact SeqAt.EqAt.int_int _ _ _ _
      · exact SeqAt.EqAt.str_str _ _ _ _
      · exact absurd (show j + 1 + 1 < 2 from h1) (by omega))
    (fun j h1 h2 _ => by
      rcases j with _ | _ | j
      · exact Ob.RcOp.lt_int _ _ _ _
      · exact rc_str _ _ _ _
      · exact absurd (show j + 1 + 1 < 2 from h1) (by omega))
  have e : Ob.lexAt (fun j => if j = 0 then n == m else p == r) (fun j => if j = 0 then decide (n < m) else decide (p.cps.toList < r.cps.toList)) false 0 2 = (if n = m then decide (p.cps.toList < r.cps.toList) else decide (n < m)) := by
    rw [Ob.lexAt_succ, Ob.lexAt_succ, Ob.lexAt_zero]
    by_cases h1 : n = m
    · subst h1
      by_cases h2 : p = r
      · subst h2
        simp
      · simp [h2]
    · simp [h1]
  have z1 : ([Value.int n t1, Value.str p t2].toArray.size) = 2 := rfl
  have z2 : ([Value.int m t3, Value.str r t4].toArray.size) = 2 := rfl
  rw [z1, z2, Nat.min_self, decide_eq_false (Nat.lt_irrefl 2), e] at R
  exact R X.prog X.w X.xe (EP X pins σ Q) ⟨.bl _, H, I, rfl, q⟩
end Gr

set_option Elab.async false
set_option maxRecDepth 100000
set_option maxHeartbeats 4000000
set_option linter.all false
/-! Ours: values of any kind as data; tables of generators, any number of them; what stands beside a well. -/
namespace Gr
open PySem PySem.Spec PyProof.Rows L2 GxR
mutual
/-- a value that is data -/
inductive Od (H : Hp) : V → PyData → Prop
  | non : Od H .non .none
  | bl (b : Bool) : Od H (.bl b) (.bool b)
  | int (i : Int) : Od H (.int i) (.int i)
  | str (x : Str) : Od H (.str x) (.str x)
  | lst {a : Addr} {xs : List V} {ds : List PyData} : H a = some (.lst xs) → OdAll H xs ds → Od H (.ref a) (.list ds)
  | tup {a : Addr} {xs : List V} {ds : List PyData} : H a = some (.tup xs) → OdAll H xs ds → Od H (.ref a) (.tuple ds)
  | dic {a : Addr} {kvs : List (Key × V)} {ds : List (PyData × PyData)} : H a = some (.dK kvs) → OdAll H (kvs.map fun p => kV p.1) (ds.map (·.1)) → OdAll H (kvs.map (·.2)) (ds.map (·.2)) → Od H (.ref a) (.dict ds)
inductive OdAll (H : Hp) : List V → List PyData → Prop
  | nil : OdAll H [] []
  | cons {v : V} {vs : List V} {d : PyData} {ds : List PyData} : Od H v d → OdAll H vs ds → OdAll H (v :: vs) (d :: ds)
end
mutual
theorem Od.same {H H' : Hp} (s : Same H H') : ∀ {v : V} {d : PyData}, Od H v d → Od H' v d
  | _, _, .non => .non
  | _, _, .bl b => .bl b
  | _, _, .int i => .int i
  | _, _, .str x => .str x
  | _, _, .lst e a => .lst (s _ _ e) (OdAll.same s a)
  | _, _, .tup e a => .tup (s _ _ e) (OdAll.same s a)
  | _, _, .dic e a b => .dic (s _ _ e) (OdAll.same s a) (OdAll.same s b)
theorem OdAll.same {H H' : Hp} (s : Same H H') : ∀ {vs : List V} {ds : List PyData}, OdAll H vs ds → OdAll H' vs ds
  | _, _, .nil => .nil
  | _, _, .cons a b => .cons (Od.same s a) (OdAll.same s b)
end
mutual
theorem Od.dq {K : PySem.W.Frag} {H : Hp} : ∀ {v : V} {d : PyData}, Od H v d → Dq K H v d
  | _, _, .non => .non
  | _, _, .bl b => .bl b
  | _, _, .int i => .int i
  | _, _, .str x => .str x
  | _, _, .lst e a => .lst (SqL.of e) (OdAll.dq a)
  | _, _, .tup e a => .tup (SqT.of e) (OdAll.dq a)
  | _, _, .dic e a b => .dic e (OdAll.dq a) (OdAll.dq b)
theorem OdAll.dq {K : PySem.W.Frag} {H : Hp} : ∀ {vs : List V} {ds : List PyData}, OdAll H vs ds → DqAll K H vs ds
  | _, _, .nil => .nil
  | _, _, .cons a b => .cons (Od.dq a) (OdAll.dq b)
end
theorem OdAll.len {H : Hp} : ∀ {vs : List V} {ds : List PyData}, OdAll H vs ds → vs.length = ds.length
  | _, _, .nil => rfl
  | _, _, .cons _ b => congrArg (· + 1) (OdAll.len b)
def tyD : PyData → String
  | .none => "NoneType"
  | .bool _ => "bool"
  | .int _ => "int"
  | .str _ => "str"
  | .list _ => "list"
  | .tuple _ => "tuple"
  | .dict _ => "dict"
theorem Od.ty {K : PySem.W.Frag} {H : Hp} {v : V} {d : PyData} (h : Od H v d) : TyX K H v (.type (tyD d)) := by
  cases h with
  | non => exact .base .non
  | bl b => exact .base (.bl b)
  | int i => exact .base (.int i)
  | str x => exact .base (.str x)
  | lst e _ => exact .base (.lst e)
  | tup e _ => exact .base (.tup e)
  | dic e _ _ => exact .base (.dK e)
def isIntD : PyData → Bool
  | .bool _ => true
  | .int _ => true
  | _ => false
def isBoolD : PyData → Bool
  | .bool _ => true
  | _ => false
def isStrD : PyData → Bool
  | .str _ => true
  | _ => false
def isTupD : PyData → Bool
  | .tuple _ => true
  | _ => false
theorem kInt {K : PySem.W.Frag} (d : PyData) : PySem.W.kitOne K (.type (tyD d)) (.type "int") = some (isIntD d) := by
  cases d <;> (refine kit_ty ?_; simp only [tyD, isIntD]; decide +kernel)
theorem kBool {K : PySem.W.Frag} (d : PyData) : PySem.W.kitOne K (.type (tyD d)) (.type "bool") = some (isBoolD d) := by
  cases d <;> (refine kit_ty ?_; simp only [tyD, isBoolD]; decide +kernel)
theorem kStr {K : PySem.W.Frag} (d : PyData) : PySem.W.kitOne K (.type (tyD d)) (.type "str") = some (isStrD d) := by
  cases d <;> (refine kit_ty ?_; simp only [tyD, isStrD]; decide +kernel)
theorem kTup {K : PySem.W.Frag} (d : PyData) : PySem.W.kitOne K (.type (tyD d)) (.type "tuple") = some (isTupD d) := by
  cases d <;> (refine kit_ty ?_; simp only [tyD, isTupD]; decide +kernel)
def wholeD : PyData → Bool
  | .int _ => true
  | _ => false
def spWhole : Sp := fun vs H Q _ => ∃ v d, vs = [v] ∧ Od H v d ∧ Q (.bl (wholeD d)) H
def betwD (d : PyData) (lo hi : Int) : Bool := match d with
  | .int n => decide (lo ≤ n) && decide (n ≤ hi)
  | _ => false
def spBetw : Sp := fun vs H Q _ => ∃ v d lo hi, vs = [v, .int lo, .int hi] ∧ Od H v d ∧ Q (.bl (betwD d lo hi)) H
def rowD (d : PyData) (lo hi : Int) : Bool := match d with
  | .tuple ds => decide (lo ≤ (ds.length : Nat)) && decide (((ds.length : Nat) : Int) ≤ hi)
  | _ => false
def spRow : Sp := fun vs H Q _ => ∃ v d lo hi, vs = [v, .int lo, .int hi] ∧ Od H v d ∧ Q (.bl (rowD d lo hi)) H

/-! ### tables -/
def Tb (ps : List Addr) (H : Hp) : Prop := ∀ p ∈ ps, TabG H p
/-- but for the tables all is as it was -/
def UpL (ps : List Addr) (H H' : Hp) : Prop := Tb ps H' ∧ ∀ b, b ∉ ps → ∀ o, H b = some o → H' b = some o
def Stay (H H' : Hp) : Prop := ∀ a o, H a = some o → (∀ ps, o ≠ .tbl ps) → H' a = some o
theorem tabG_same {H H1 : Hp} {p : Addr} (h : TabG H p) (s : Same H H1) : TabG H1 p := let ⟨ps, a, b⟩ := h; ⟨ps, s _ _ a, b⟩
theorem tabG_tab {H H1 : Hp} {p q : Addr} (h : TabG H q) (t : Tabbed p H H1) : TabG H1 q := by
  by_cases e : q = p
  · rw [e]
    exact t.1
  · obtain ⟨ps, a, b⟩ := h
    exact ⟨ps, (t.2 _ e).trans a, b⟩
section
variable {ps : List Addr} {H H1 H2 : Hp}
theorem Tb.same (h : Tb ps H) (s : Same H H1) : Tb ps H1 := fun p hp => tabG_same (h p hp) s
theorem UpL.refl (h : Tb ps H) : UpL ps H H := ⟨h, fun _ _ _ e => e⟩
theorem UpL.trans (a : UpL ps H H1) (b : UpL ps H1 H2) : UpL ps H H2 := ⟨b.1, fun x n o e => b.2 x n o (a.2 x n o e)⟩
theorem UpL.same (h : Tb ps H) (s : Same H H1) : UpL ps H H1 := ⟨h.same s, fun x _ o e => s x o e⟩
theorem UpL.tab {p : Addr} (h : Tb ps H) (t : Tabbed p H H1) (hp : p ∈ ps) : UpL ps H H1 := ⟨fun q hq => tabG_tab (h q hq) t, fun x n o e => (t.2 x (fun z => n (z ▸ hp))).trans e⟩
theorem UpL.stay (h : Tb ps H) (u : UpL ps H H1) : Stay H H1 := fun a o e n => by
  refine u.2 a (fun z => ?_) o e
  obtain ⟨p1, e1, _⟩ := h a z
  rw [e1] at e
  exact n _ (Option.some.inj e).symm
theorem UpL.put {D : Addr} {xs ys : List V} (u : UpL ps H H1) (n : H D = none) (e : H1 D = some (.lst xs)) : UpL ps H (upd H1 D (.lst ys)) := by
  refine ⟨fun p hp => ?_, fun x m o q => ?_⟩
  · obtain ⟨qs, e1, t⟩ := u.1 p hp
    refine ⟨qs, (upd_ne fun z => ?_).trans e1, t⟩
    rw [z, e] at e1
    cases e1
  · rw [upd_ne (ne_of_none q n)]
    exact u.2 x m o q
end
mutual
theorem Od.stay {H H' : Hp} (s : Stay H H') : ∀ {v : V} {d : PyData}, Od H v d → Od H' v d
  | _, _, .non => .non
  | _, _, .bl b => .bl b
  | _, _, .int i => .int i
  | _, _, .str x => .str x
  | _, _, .lst e a => .lst (s _ _ e (fun _ q => nomatch q)) (OdAll.stay s a)
  | _, _, .tup e a => .tup (s _ _ e (fun _ q => nomatch q)) (OdAll.stay s a)
  | _, _, .dic e a b => .dic (s _ _ e (fun _ q => nomatch q)) (OdAll.stay s a) (OdAll.stay s b)
theorem OdAll.stay {H H' : Hp} (s : Stay H H') : ∀ {vs : List V} {ds : List PyData}, OdAll H vs ds → OdAll H' vs ds
  | _, _, .nil => .nil
  | _, _, .cons a b => .cons (Od.stay s a) (OdAll.stay s b)
end
theorem cutV_to (xs : List V) (n : Nat) : cutV xs none (some (n : Int)) = xs.take n := by
  unfold cutV
  rw [HT.sIx_none, HT.sIx_nat, List.drop_zero, Nat.sub_zero]
  by_cases h : n ≤ xs.length
  · rw [Nat.min_eq_left h]
  · rw [Nat.min_eq_right (by omega), List.take_of_length_le (Nat.le_refl _), List.take_of_length_le (by omega)]
theorem cutV_from (xs : List V) (n : Nat) : cutV xs (some (n : Int)) none = xs.drop n := by
  unfold cutV
  rw [HT.sIx_none, HT.sIx_nat]
  by_cases h : n ≤ xs.length
  · rw [Nat.min_eq_left h]
    exact List.take_of_length_le (by rw [List.length_drop]; exact Nat.le_refl _)
  · rw [Nat.min_eq_right (by omega), List.drop_of_length_le (Nat.le_refl _), List.drop_of_length_le (by omega), List.take_nil]
theorem OdAll.take {H : Hp} : ∀ {vs : List V} {ds : List PyData} (n : Nat), OdAll H vs ds → OdAll H (vs.take n) (ds.take n)
  | _, _, 0, _ => by rw [List.take_zero, List.take_zero]; exact .nil
  | _, _, n + 1, .nil => by rw [List.take_nil, List.take_nil]; exact .nil
  | _, _, n + 1, .cons a b => .cons a (OdAll.take n b)
theorem OdAll.drop {H : Hp} : ∀ {vs : List V} {ds : List PyData} (n : Nat), OdAll H vs ds → OdAll H (vs.drop n) (ds.drop n)
  | _, _, 0, h => h
  | _, _, n + 1, .nil => by rw [List.drop_nil, List.drop_nil]; exact .nil
  | _, _, n + 1, .cons a b => OdAll.drop n b
theorem OdAll.app {H : Hp} : ∀ {vs ws : List V} {ds es : List PyData}, OdAll H vs ds → OdAll H ws es → OdAll H (vs ++ ws) (ds ++ es)
  | _, _, _, _, .nil, h => h
  | _, _, _, _, .cons a b, h => .cons a (OdAll.app b h)
/-- the heap without some addresses -/
def hide (H : Hp) (ls : List Addr) : Hp := fun a => if a ∈ ls then none else H a
theorem hide_same (H : Hp) (ls : List Addr) : Same (hide H ls) H := fun a o e => by
  unfold hide at e
  split at e
  · cases e
  · exact e
theorem same_hide {H H' : Hp} (ls : List Addr) (s : Same H H') : Same (hide H ls) (hide H' ls) := fun a o e => by
  unfold hide at e ⊢
  split at e
  · cases e
  · rename_i n
    rw [if_neg n]
    exact s _ _ e
theorem hide_at {H : Hp} {ls : List Addr} {a : Addr} {o : HO} (e : H a = some o) (n : a ∉ ls) : hide H ls a = some o := by
  unfold hide
  rw [if_neg n]
  exact e
theorem not_hidden {H : Hp} {ls : List Addr} (h : ∀ l ∈ ls, H l ≠ none) {a : Addr} (e : H a = none) : a ∉ ls := fun q => h a q e
def Lit (te : TE) (d : PyData) : Prop := ∀ (ls : List Addr) (σ : L2.St) (H : Hp) (Q : VK), (∀ l ∈ ls, H l ≠ none) → (∀ v H', Same H H' → Od (hide H' ls) v d → Q v H') → te σ H Q
def Lits (ta : TA) (ds : List PyData) : Prop := ∀ (ls : List Addr) (σ : L2.St) (H : Hp) (Q : List V → Hp → Prop), (∀ l ∈ ls, H l ≠ none) → (∀ vs H', Same H H' → OdAll (hide H' ls) vs ds → Q vs H') → ta σ H Q
theorem keep_ls {H H' : Hp} {ls : List Addr} (h : ∀ l ∈ ls, H l ≠ none) (s : Same H H') : ∀ l ∈ ls, H' l ≠ none := fun l hl q => by
  cases e : H l with
  | none => exact h l hl e
  | some o => rw [s _ _ e] at q; cases q
theorem lit_int (i : Int) : Lit (tC (.int i)) (.int i) := fun _ _ _ _ _ k => k _ _ (.refl _) (.int i)
theorem lit_str (x : Str) : Lit (tC (.str x)) (.str x) := fun _ _ _ _ _ k => k _ _ (.refl _) (.str x)
theorem lit_bl (b : Bool) : Lit (tC (.bl b)) (.bool b) := fun _ _ _ _ _ k => k _ _ (.refl _) (.bl b)
theorem lit_non : Lit (tC .non) .none := fun _ _ _ _ _ k => k _ _ (.refl _) .non
theorem lits_nil : Lits tNil [] := fun _ _ _ _ _ k => k _ _ (.refl _) .nil
theorem lits_cons {te : TE} {ta : TA} {d : PyData} {ds : List PyData} (h1 : Lit te d) (h2 : Lits ta ds) : Lits (tCons te ta) (d :: ds) := fun ls σ H Q hl k =>
  h1 ls σ H _ hl fun v H1 s1 o1 => h2 ls σ H1 _ (keep_ls hl s1) fun vs H2 s2 o2 => k _ _ (s1.trans s2) (.cons (o1.same (same_hide ls s2)) o2)
theorem lit_tup {ta : TA} {ds : List PyData} (h : Lits ta ds) (n : ds.length ≤ 60) : Lit (tTup ta) (.tuple ds) := fun ls σ H Q hl k =>
  h ls σ H _ hl fun vs H1 s1 o1 => ⟨by have := o1.len; have mz : 5000 ≤ sizeLine := by decide
                                       omega, fun p hp => k _ _ (s1.trans (same_upd hp)) (.tup (hide_at upd_same (not_hidden (keep_ls hl s1) hp)) (o1.same (same_hide ls (same_upd hp))))⟩
theorem lit_lst {ta : TA} {ds : List PyData} (h : Lits ta ds) (n : ds.length ≤ 60) : Lit (tLst ta) (.list ds) := fun ls σ H Q hl k =>
  h ls σ H _ hl fun vs H1 s1 o1 => ⟨by have := o1.len; have mz : 5000 ≤ sizeLine := by decide
                                       omega, fun p hp => k _ _ (s1.trans (same_upd hp)) (.lst (hide_at upd_same (not_hidden (keep_ls hl s1) hp)) (o1.same (same_hide ls (same_upd hp))))⟩
theorem lit_d0 : Lit tDNewK (.dict []) := fun ls σ H Q hl k p hp => k _ _ (same_upd hp) (.dic (hide_at upd_same (not_hidden hl hp)) .nil .nil)
theorem lit_dx : Lit (tDisp [(tC (.str "x"), tC (.int 1))]) (.dict [(.str "x", .int 1)]) := fun ls σ H Q hl k p hp => by
  refine ⟨upd_same, [(Sum.inr "x", .int 1)], rfl, by decide, ?_⟩
  have e : upd (upd H p (.dK [])) p (.dK (mergeK [] [(Sum.inr "x", .int 1)])) = upd H p (.dK [(Sum.inr "x", .int 1)]) := by
    funext b
    unfold upd
    by_cases h : b = p <;> simp [h] <;> rfl
  rw [e]
  exact k _ _ (same_upd hp) (.dic (hide_at upd_same (not_hidden hl hp)) (.cons (.str _) .nil) (.cons (.int _) .nil))

def hasOne (i : Int) : List PyData → Bool
  | [] => false
  | .int j :: l => (j == i) || hasOne i l
  | _ :: l => hasOne i l
/-- one thing told of any value -/
def spD (ps : List Addr) (dom : PyData → Prop) (f : PyData → Bool) : Sp := fun vs H Q _ => ∃ v d, vs = [v] ∧ Od H v d ∧ dom d ∧ Tb ps H ∧ ∀ H', UpL ps H H' → Q (.bl (f d)) H'
end Gr

set_option Elab.async false
set_option maxRecDepth 100000
set_option maxHeartbeats 4000000
set_option linter.all false
/-! Ours: enumerate over a tuple; a promise with less asked. -/
namespace Gr
open PySem PySem.Spec PyProof.Rows L2 GxR
theorem fn_imp {P : Program} {w : World} {K : PySem.W.Frag} {mg : Str → Option Value} {base : Heap} {CX : CXT} {k : Nat} {f : Addr} {fd : FuncData} {ps : List Str} {sp sp' : Sp} (F : FnOk P w K mg base CX k f fd ps sp) (h : ∀ vs H Q E, sp' vs H Q E → sp vs H Q E) : FnOk P w K mg base CX k f fd ps sp' :=
  ⟨fun vs H Q E q => F.len vs H Q E (h _ _ _ _ q), fun A outer s H args us vs Q E hr e b r q => F.run A outer s H args us vs Q E hr e b r (h _ _ _ _ q)⟩
set_option maxHeartbeats 1000000 in
theorem enum_new1 {v : Value} {o : Obj} {G : Heap → Prop} (B : Begins v o G) :
    Meets (Builtin.«enumerate.__new__» ⟨[.type "enumerate", v], []⟩) (fun _ R z => G z.heap ∧
      R (.ok (.ret (.ref (z.heap.push o).objs.size))) { z with heap := (z.heap.push o).push { cls := .type "enumerate", data := .fields #[.none, .bool false, .ref z.heap.objs.size, rawInt 0, .none, .none] } }) :=
  .of_wp fun prog w A R z hh => by
    obtain ⟨hp, gg, dd, tk, oo⟩ := z
    obtain ⟨g1, rr⟩ := hh
    have sb := sub_enumerate
    have go : ∀ {A1 : Around} {E1 : Value → Shared → Prop} {Q1 : Value → Shared → Prop}, Q1 (.ref hp.objs.size) ⟨hp.push o, gg, dd, tk, oo⟩ → wpAny (model prog w) A1 (pyIter v) Q1 E1 ⟨hp, gg, dd, tk, oo⟩ := fun q => B.iter prog w _ _ ⟨hp, gg, dd, tk, oo⟩ _ g1 q
    wp_walk using go
    refine wpAny_stack_any fun _ => wpAny_pure ?_
    split
    · rename_i cc _ _ _ _ _
      cases (cc == Value.type "enumerate") <;> (wp_walk using go; exact ⟨_, rfl, rr⟩)
    · wp_walk using go
      exact ⟨_, rfl, rr⟩
theorem enum_call1 {prog : Program} {w : World} {A : Around} {E : Value → Shared → Prop} {z : Shared} {v : Value} {o : Obj} {G : Heap → Prop} {Q : Value → Shared → Prop} (B : Begins v o G) (g1 : G z.heap)
    (hQ : ∀ h', IsEnum h' (z.heap.objs.size + 1) z.heap.objs.size 0 .none → h'.get? z.heap.objs.size = some o → (∀ b u, z.heap.get? b = some u → h'.get? b = some u) → Q (.ref (z.heap.objs.size + 1)) { z with heap := h' }) :
    wpAny (model prog w) A (call (.type "enumerate") [v]) Q E z := by
  have e1 : (z.heap.push o).objs.size = z.heap.objs.size + 1 := Heap.size_push ..
  refine callType_new F.called_enumerate (by decide) (F.typeCall_enumerate_1 _) (F.newCall_enumerate_1 _) (fun ob => F.args_object_init_2 ob _) F.entry_enumerate_new (enum_new1 B) ⟨g1, ?_⟩
  show _ ∧ _
  rw [e1]
  have e2 := Heap.get?_push_size (z.heap.push o) (o := { cls := .type "enumerate", data := .fields #[.none, .bool false, .ref z.heap.objs.size, rawInt 0, .none, .none] }) rfl
  rw [e1] at e2
  exact ⟨⟨_, e2, rfl⟩, hQ _ e2 (Heap.get?_push_of_some _ (Heap.get?_push_size _ B.free)) fun b u q => Heap.get?_push_of_some _ (Heap.get?_push_of_some _ q)⟩
/-- pairs (i, the item at i) of a tuple, each a new one -/
def Itp (K : PySem.W.Frag) (a : Addr) (xs : List V) : It := ⟨fun i H => SqT K H a xs ∧ i < xs.length, fun i H v H' => ∃ T x, v = .ref T ∧ H T = none ∧ H' = upd H T (.tup [.int (i : Nat), x]) ∧ xs[i]? = some x, fun i H => SqT K H a xs ∧ xs.length = i⟩
def YTp (xs : List V) : Nat → Hp → V → Hp → Prop := fun i H v H' => ∃ T x, v = .ref T ∧ H T = none ∧ H' = upd H T (.tup [.int (i : Nat), x]) ∧ xs[i]? = some x
theorem walk_tp {K : PySem.W.Frag} {a : Addr} {xs : List V} : Walk (Itp K a xs) xs.length (fun H => SqT K H a xs) (YTp xs) :=
  ⟨fun _ _ hi q => ⟨q, hi⟩, fun _ q => ⟨q, rfl⟩, fun _ _ _ _ _ _ y => y⟩
theorem turn_tp {P : Program} {w : World} {K : PySem.W.Frag} {elts : List Expr} {kk : Nat} {tpos : Pos} {e it a : Addr} {xs : List V} :
    Turn P w K (.Tuple elts kk tpos) (Itp K a xs) [e, it] e (fun i h => (∃ old, IsEnum h e it ((i : Nat) : Int) old) ∧ h.IsTupleIter it a i ∧ e ≠ it ∧ a ≠ it ∧ a ≠ e) where
  mem := List.mem_cons_self
  obj := by
    rintro i h ⟨⟨old, he⟩, ⟨o, ho, hc, hd⟩, _⟩ b hb
    rcases List.mem_cons.mp hb with z | z
    · rw [z]
      exact ⟨_, he, fun v q => nomatch q⟩
    · rw [List.mem_singleton.mp z]
      exact ⟨o, ho, fun v q => by rw [hd] at q; cases q⟩
  keep := by
    rintro i h h' ⟨⟨old, he⟩, ⟨o, ho, r⟩, ne⟩ k
    exact ⟨⟨old, k e (List.mem_cons_self) _ he⟩, ⟨o, k it (by simp) _ ho, r⟩, ne⟩
  item := by
    intro X hP hw hK hc i pins s σ H E I hf st hg
    subst hP hw hK
    obtain ⟨⟨old, he⟩, hit, ne, na, nae⟩ := st
    obtain ⟨hT0, hi⟩ := hg
    obtain ⟨its, rv, pl, hz0⟩ := I.tuple hT0
    have gx : xs[i]? = some xs[i] := List.getElem?_eq_getElem hi
    obtain ⟨uv, hu0, ru⟩ := paired_at rv gx
    have el : e < s.heap.objs.size := Heap.lt_size he
    have il : it < s.heap.objs.size := let ⟨_, q, _⟩ := hit; Heap.lt_size q
    have n1 : i < its.toArray.size := by rw [List.size_toArray, ← paired_len rv]; exact hi
    refine wpAny_pyNext_enum_itemC (Draws.tuple (A := X.A.in1) (I.ok.hd hc) it a na its.toArray) he ⟨hit, pl⟩ n1 ne (fun z => ?_) fun u h' tk hu ho hit' hT hz hk => ?_
    · rcases List.mem_cons.mp z with z | z
      · exact ne z
      · exact nae (List.mem_singleton.mp z).symm
    have eu : u = uv := by
      have : its[i]? = some u := (List.getElem?_toArray (xs := its) (i := i)).symm.trans hu
      rw [hu0] at this
      exact (Option.some.inj this).symm
    refine ⟨_, rfl, wpAny_letOwnedTupleGo_enum (s := { s with heap := h', toks := tk + 1 }) ho fun h'' he' sb => ?_⟩
    have nT : s.heap.objs.size ≠ e := Nat.ne_of_gt el
    have hT2 : h''.get? s.heap.objs.size = some { cls := .type "tuple", data := .seq #[.int ((i : Nat) : Int) tk, u] } := (sb.2 _ nT).trans hT
    have new : ObjOk X.prog X.w (upd H s.heap.objs.size (.tup [.int (i : Nat), xs[i]])) h'' s.heap.objs.size (.tup [.int (i : Nat), xs[i]]) :=
      ⟨by show 2 ≤ sizeLine; decide, _, .cons ⟨_, rfl⟩ (.cons (eu ▸ ru) .nil), ⟨_, hT2, rfl, _, rfl⟩⟩
    have I1 : Inv X pins σ (upd H s.heap.objs.size (.tup [.int (i : Nat), xs[i]])) { s with heap := h'', toks := tk + 1 } := by
      refine I.turnedNew (ch := [e, it]) (fun b ob hb q => ?_) hf (Nat.le_refl _) new
      have n1 : b ≠ e := fun z => hb (z ▸ List.mem_cons_self)
      have n2 : b ≠ it := fun z => hb (by rw [z]; exact List.mem_cons_of_mem _ List.mem_cons_self)
      exact (sb.2 b n1).trans (hk b ob n1 n2 q)
    refine ⟨.ref s.heap.objs.size, _, I1, rfl, ⟨_, _, rfl, I.hok.fresh (Nat.le_refl _), rfl, gx⟩, ⟨⟨u, ?_⟩, ?_, ne, na, nae⟩, fun b hb => ?_⟩
    · have q : ((i + 1 : Nat) : Int) = (i : Int) + 1 := by omega
      rw [q]
      exact he'
    · obtain ⟨o, q, r⟩ := hit'.1
      exact ⟨o, (sb.2 it (Ne.symm ne)).trans q, r⟩
    · have lb : b < s.heap.objs.size := by
        rcases List.mem_cons.mp hb with z | z
        · rw [z]
          exact el
        · rw [List.mem_singleton.mp z]
          exact il
      rw [upd_ne (Nat.ne_of_lt lb)]
      exact (hf b hb).1
  done := by
    intro X hP hw hK hc i pins s σ H E I hf st hg
    subst hP hw hK
    obtain ⟨⟨old, he⟩, hit, ne, na, nae⟩ := st
    obtain ⟨hT0, hi⟩ := hg
    subst hi
    obtain ⟨its, rv, pl, hz0⟩ := I.tuple hT0
    have D := Draws.tuple (prog := X.prog) (w := X.w) (A := X.A.in1) (I.ok.hd hc) it a na its.toArray
    have n1 : its.toArray.size = xs.length := by rw [List.size_toArray, ← paired_len rv]
    obtain ⟨f0, f1, f2, f3, f4, f5⟩ := hf it (by simp)
    rw [n1] at D
    exact wpAny_pyNext_enum_endD D he ⟨hit, pl⟩ fun h' eb => ⟨rfl, I.turned (t' := s.toks) (fun b o hb q => eb b o hb q) f0 f1 f3 f4 f5⟩
  self := fun A i s Q E ⟨⟨_, he⟩, _⟩ h => wpAny_pyIter_enum he h
/-- enumerate(e), e a tuple -/
def iEnumT (K : PySem.W.Frag) (ta : TA) : TI := fun σ H R => ta σ H fun vs H1 => ∃ a xs, vs = [.ref a] ∧ SqT K H1 a xs ∧ R (Itp K a xs) H1
theorem pi_enumT {X : Cx} {e : Expr} {ta : TA} {p pos tpos : Pos} {elts : List Expr} {kk : Nat} (hg : Gl X "enumerate") (hm : X.mg "enumerate" = none) (ha : PA X [e] ta) (hs : starEach [e] X.env = [(false, eval e X.env)] := by rfl) :
    PI X (.Tuple elts kk tpos) (.Call (.Name "enumerate" p) [e] [] pos) (iEnumT X.K ta) := by
  refine ⟨fun pins s σ H R I h => Call_ (ld_blt I hg hm boot_enumerate (PyProof.Rows.callWith_type1 (thn (ha.run pos pins s σ H _ I h) ?_) hs rfl))⟩
  rintro us s1 ⟨vs, H1, I1, r1, a, xs, rfl, hT0, q⟩
  obtain ⟨u, rfl, ru⟩ := vals1 r1
  cases ru
  obtain ⟨its, rv, pl, hz0⟩ := I1.tuple hT0
  have la : a < s1.heap.objs.size := let ⟨_, q, _⟩ := pl; Heap.lt_size q
  refine enum_call1 (begins_tuple a its.toArray) pl fun h' he ho hk => wpAny_pyIter_enum he ⟨_, [s1.heap.objs.size + 1, s1.heap.objs.size], _, _, H1, rfl, I1.kept (t' := s1.toks) hk, turn_tp (a := a) (xs := xs), ⟨⟨.none, he⟩, ⟨_, ho, rfl, rfl⟩, Nat.succ_ne_self _, Nat.ne_of_lt la, Nat.ne_of_lt (Nat.lt_succ_of_lt la)⟩, fun b hb => ?_, q⟩
  have lb : s1.heap.objs.size ≤ b := by
    rcases List.mem_cons.mp hb with z | z
    · rw [z]
      exact Nat.le_succ _
    · rw [List.mem_singleton.mp z]
      exact Nat.le_refl _
  exact I1.fpOk lb (I1.hok.fresh lb)
end Gr

set_option Elab.async false
set_option maxRecDepth 100000
set_option maxHeartbeats 4000000
set_option linter.all false
/-! Ours: max(numbers, default=k). -/
namespace Gr
open PySem PySem.Spec PyProof.Rows L2 GxR
def maxI (k : Int) : List Int → Int
  | [] => k
  | n :: ns => ns.foldl max n
theorem ints_reads {h : Heap} : ∀ {ns : List Int} {us : List Value}, Vals (ns.map V.int) us → ∃ as, ReadsAll h us (ns.map PyData.int) as
  | [], _, .nil => ⟨_, .nil⟩
  | n :: ns, _, .cons r t => by
    obtain ⟨tk, rfl⟩ := r
    obtain ⟨as, q⟩ := ints_reads (ns := ns) t
    exact ⟨_, .cons (.int n tk) q⟩
theorem ints_depth (ns : List Int) : PyData.depthAll (ns.map PyData.int) ≤ 2 := by
  induction ns with
  | nil => simp [PyData.depthAll]
  | cons n l ih =>
    simp only [List.map_cons, PyData.depthAll, PyData.depth]
    omega
theorem ints_alike (ns : List Int) : PySem.W.AlikeAll (ns.map PyData.int) := by
  refine ⟨fun x hx y hy => ?_, fun x hx => ?_⟩
  · obtain ⟨a, _, rfl⟩ := List.mem_map.mp hx
    obtain ⟨b, _, rfl⟩ := List.mem_map.mp hy
    rfl
  · obtain ⟨a, _, rfl⟩ := List.mem_map.mp hx
    exact fun z => nomatch z
def rMaxDef (K : PySem.W.Frag) : List V → List V → Hp → VK → Prop := fun vs zs H Q => ∃ (a : Addr) (ns : List Int) (k : Int), vs = [.ref a] ∧ zs = [.int k] ∧ SqL K H a (ns.map V.int) ∧ Q (.int (maxI k ns)) H
theorem call_maxDef {X : Cx} (hd : X.A.handled = none) (hu : X.A.units + 64 < cLine) : CallRK X (.builtin "max") [("default" : Str)] (rMaxDef X.K) := by
  intro pins s σ H xs zs us ws Q I rx rz h
  obtain ⟨a, ns, k, rfl, rfl, hS, q⟩ := h
  obtain ⟨u, rfl, ru⟩ := vals1 rx
  obtain ⟨uw, rfl, rw2⟩ := vals1 rz
  cases ru
  obtain ⟨t, rfl⟩ := rw2
  obtain ⟨its, rv, pl, hz⟩ := I.list hS
  obtain ⟨as, ra⟩ := ints_reads (h := s.heap) rv
  refine PySem.W.max_list_default (xs := ns.map PyData.int) (d := .int k t) hd pl.isList (by exact ra) (ints_alike ns) (by have := ints_depth ns; omega) (fun e h' tk hk => ?_) (fun y ys i v h' tk bs e hv hr hk => ?_)
  · cases ns with
    | nil => exact ⟨.int k, H, I.kept (t' := tk) hk, ⟨t, rfl⟩, q⟩
    | cons n l => cases e
  · cases ns with
    | nil => cases e
    | cons n l =>
      have e1 : y = .int n := (List.cons.inj e).1.symm
      have e2 : ys = l.map PyData.int := (List.cons.inj e).2.symm
      subst e1
      subst e2
      rw [PySem.W.maxD_ints] at hr
      cases hr
      exact ⟨.int _, H, I.kept (t' := tk) hk, ⟨_, rfl⟩, q⟩
end Gr

set_option Elab.async false
set_option maxRecDepth 100000
set_option maxHeartbeats 4000000
set_option linter.all false
/-! Ours: sum of a tuple of numbers; a walk within a comprehension. -/
namespace Gr
open PySem PySem.Spec PyProof.Rows L2 GxR
def rSumT (K : PySem.W.Frag) : List V → Hp → VK → Prop := fun vs H Q => ∃ (a : Addr) (ns : List Int), vs = [V.ref a] ∧ SqT K H a (ns.map V.int) ∧ Q (.int ns.sum) H
theorem cr_sumT {X : Cx} (hd : X.A.handled = none) : CallR X (.builtin "sum") (rSumT X.K) := by
  intro pins s σ H vs us Q I r h
  obtain ⟨a, ns, rfl, hT, q⟩ := h
  obtain ⟨its, rv, pl, _⟩ := I.tuple hT
  rw [Vals.ref1 r]
  have hI := rv.ints
  obtain ⟨zs, ez⟩ := hI.allInts.items
  have en : numsOf its.toArray.toList = ns := by rw [show its.toArray.toList = its from rfl]; exact hI.numsOf
  rw [ez] at pl en
  rw [nums_intItems] at en
  refine PySem.W.ktm_sumG hd pl fun h' tk t' hk => ?_
  rw [preSum_eq, List.take_of_length_le (by simp), en]
  exact ⟨.int _, H, I.kept hk, ⟨_, rfl⟩, q⟩
/-- a walk's turns, the body told by what it goes on to -/
theorem lp_it {J : It} {n : Nat} {G : Hp → Prop} {Y : Nat → Hp → V → Hp → Prop} (w : Walk J n G Y) {H0 : Hp} {Stop : Hp → Prop} {body : V → Hp → (Hp → Prop) → Prop} (Pv : Nat → Hp → Prop) (h0 : Pv 0 H0) (hG : ∀ i H, i ≤ n → Pv i H → G H)
    (hs : ∀ i x H H', i < n → Pv i H → Y i H x H' → body x H' (Pv (i + 1))) (hd : ∀ H, Pv n H → Stop H) :
    ∃ W : Nat → Nat → Hp → Prop, (∃ m, W 0 m H0) ∧ ∀ i m H, W i m H → (J.stop i H ∧ Stop H) ∨ (J.go i H ∧ ∃ N : Hp → Prop, (∀ H', N H' → ∃ m', m' < m ∧ W (i + 1) m' H') ∧ ∀ x H', J.yld i H x H' → body x H' N) := by
  refine ⟨fun i m H => m = n - i ∧ i ≤ n ∧ Pv i H, ⟨n, by simp, Nat.zero_le _, h0⟩, ?_⟩
  rintro i m H ⟨rfl, le, p⟩
  by_cases lt : i < n
  · exact .inr ⟨w.goes i H lt (hG i H le p), Pv (i + 1), fun H' p' => ⟨n - (i + 1), by omega, rfl, lt, p'⟩, fun x H' y => hs i x H H' lt p (w.yields i H x H' lt (hG i H le p) y)⟩
  · have e : i = n := by omega
    subst e
    exact .inl ⟨w.stops H (hG _ H le p), hd H p⟩
end Gr

set_option Elab.async false
set_option linter.all false
set_option maxRecDepth 100000
set_option maxHeartbeats 4000000
/-! Ours: a tuple times any small number, 0 and 1 among them. -/
namespace Gr
open PySem PySem.Spec PyProof.Rows L2
theorem tuple_mul1 (l : Addr) (items : Array Value) (n : Nat) (dd : Option Addr) (sl : Array (Option Value)) (u : Tok) :
    Meets (Builtin.«tuple.__mul__» ⟨[.ref l, .int 1 u], []⟩) (fun _ R s => s.heap.get? l = some { cls := .type "tuple", dict := dd, data := .seq items n, slots := sl } ∧
      R (.ok (.ret (Value.ref l))) s) :=
  .of_wp fun prog w A R s h => by
    obtain ⟨hp, g, d, tk, os⟩ := s
    obtain ⟨hl, h⟩ := h
    have f1 := AutoSeq1.idx_int
    wp_walk using wpAny_loadPart' hl
    exact ⟨_, rfl, h⟩
theorem tuple_mul0 (l : Addr) (items : Array Value) (n : Nat) (dd : Option Addr) (sl : Array (Option Value)) (u : Tok) (hi : items.isEmpty = false) :
    Meets (Builtin.«tuple.__mul__» ⟨[.ref l, .int 0 u], []⟩) (fun _ R s => s.heap.get? l = some { cls := .type "tuple", dict := dd, data := .seq items n, slots := sl } ∧
      R (.ok (.ret (Value.ref s.heap.objs.size))) { s with heap := s.heap.push { cls := Value.type "tuple", data := Data.seq #[] }, toks := s.toks }) :=
  .of_wp fun prog w A R s h => by
    obtain ⟨hp, g, d, tk, os⟩ := s
    obtain ⟨hl, h⟩ := h
    have f1 := AutoSeq1.idx_int
    wp_walk using wpAny_loadPart' hl
    exact ⟨_, rfl, h⟩
def rRepA (K : PySem.W.Frag) : R2 := fun x y H Q => ∃ l k xs, x = .ref l ∧ y = .int k ∧ SqT K H l xs ∧ xs ≠ [] ∧ 0 ≤ k ∧ k ≤ 1000 ∧ xs.length ≤ 1000 ∧ (k = 1 → Q (.ref l) H) ∧ (k ≠ 1 → ∀ p, H p = none → Q (.ref p) (upd H p (.tup (List.replicate k.toNat xs).flatten)))
section
variable {X : Cx}
theorem op_repA : OpR X (binaryOp .Mult) (rRepA X.K) := by
  intro pins s σ H x y v u Q I rx ry h
  obtain ⟨l, k, xs, rfl, rfl, hT, hne, h1, h2, hz, q1, q2⟩ := h
  by_cases h2k : 2 ≤ k
  · exact op_repT pins s σ H _ _ v u Q I rx ry ⟨l, k, xs, rfl, rfl, hT, hne, h2k, h2, hz, q2 (by omega)⟩
  cases rx
  obtain ⟨t, rfl⟩ := ry
  obtain ⟨its, r, ⟨⟨cls, dd, data, sl⟩, ho, hc, n, hd⟩, hs⟩ := I.tuple hT
  simp only at hc hd
  subst hc hd
  have hle : its.length = xs.length := r.length.symm
  have hn : its ≠ [] := fun e => hne (by
    rw [e] at hle
    exact List.eq_nil_of_length_eq_zero hle.symm)
  have hi : its.toArray.isEmpty = false := by
    cases its with
    | nil => exact absurd rfl hn
    | cons a b => rfl
  by_cases k1 : k = 1
  · subst k1
    refine wpAny_binaryOp_repeat_ref (T := "tuple") (U := "int") (by decide) ⟨_, ho, rfl⟩ (fun s' => typeIs_int s' 1 t) noFill_tuple_mul F.fills_int_mul F.slot_int_rmul repeat_tuple F.slot_int_index.lookup
      (call_meets F.slot_int_rmul (typeIs_int s 1 t) F.entry_int_rmul (F.args_int_rmul_2 _ _) (int_rmul_tuple 1 t l its.toArray n dd sl)
        ⟨ho, rfl, ⟨_, ho, rfl⟩, call_meets F.slot_tuple_mul ⟨_, ho, rfl⟩ F.entry_tuple_mul (F.args_tuple_mul_2 _ _) (tuple_mul1 l its.toArray n dd sl t) ⟨ho, ?_⟩⟩)
    exact ⟨.ref l, H, I, rfl, q1 rfl⟩
  · have k0 : k = 0 := by omega
    subst k0
    refine wpAny_binaryOp_repeat_ref (T := "tuple") (U := "int") (by decide) ⟨_, ho, rfl⟩ (fun s' => typeIs_int s' 0 t) noFill_tuple_mul F.fills_int_mul F.slot_int_rmul repeat_tuple F.slot_int_index.lookup
      (call_meets F.slot_int_rmul (typeIs_int s 0 t) F.entry_int_rmul (F.args_int_rmul_2 _ _) (int_rmul_tuple 0 t l its.toArray n dd sl)
        ⟨ho, rfl, ⟨_, ho, rfl⟩, call_meets F.slot_tuple_mul ⟨_, ho, rfl⟩ F.entry_tuple_mul (F.args_tuple_mul_2 _ _) (tuple_mul0 l its.toArray n dd sl t hi) ⟨ho, ?_⟩⟩)
    refine ⟨.ref s.heap.objs.size, _, I.laid (t' := s.toks) (o := .tup []) (fun b ob q => Heap.get?_push_of_some _ q) (Nat.le_refl _) ?_, rfl, q2 (by decide) _ (I.hok.fresh (Nat.le_refl _))⟩
    exact ⟨Nat.zero_le _, _, .nil, IsTup.new _ _⟩
end
end Gr

set_option Elab.async false
set_option linter.all false
set_option maxRecDepth 100000
set_option maxHeartbeats 4000000
/-! Ours: a tuple == (). -/
namespace Gr
open PySem PySem.Spec PyProof.Rows L2
def rEqT0 (K : PySem.W.Frag) : R2 := fun x y H Q => ∃ a b xs, x = .ref a ∧ y = .ref b ∧ SqT K H a xs ∧ SqT K H b [] ∧ Q (.bl (decide (xs.length = 0))) H
section
variable {X : Cx}
theorem op_eqT0 (hu : X.A.units + 64 < cLine) : OpR X (compareOp .Eq) (rEqT0 X.K) := by
  intro pins s σ H x y v u Q I rx ry h
  obtain ⟨a, b, xs, rfl, rfl, ha, hb, q⟩ := h
  cases rx
  cases ry
  obtain ⟨its, r1, p1, _⟩ := I.tuple ha
  obtain ⟨its2, r2, p2, _⟩ := I.tuple hb
  cases r2
  refine SeqAt.eq_tupleAt (e := fun _ => true) p1 p2 (by omega) (fun j h1 h2 => absurd h2 (Nat.not_lt_zero _)) ⟨.bl _, H, I, rfl, ?_⟩
  have e : ((List.range (min its.toArray.size ([] : List Value).toArray.size)).all (fun _ => true) && its.toArray.size == ([] : List Value).toArray.size) = decide (xs.length = 0) := by
    rw [r1.length, List.size_toArray]
    cases its with
    | nil => rfl
    | cons a l =>
      show (_ && (((a :: l).length) == 0)) = _
      simp
  rw [e]
  exact q
end
end Gr

set_option Elab.async false
set_option maxRecDepth 100000
set_option maxHeartbeats 2000000
set_option linter.all false
/-! Ours: all(.. for a, b in e), e a tuple of pairs of data, over a quiet element that reads captured names of the def. -/
namespace Gr
open PySem PySem.Spec PyProof.Rows L2 GxR
theorem letGo_tupleiter {prog : Program} {w : World} {A : Around} {E : Value → Shared → Prop} {s : Shared} {elts : List Expr} {x1} {pos : Pos} {I l T : Addr} {i : Nat} {Q : Unit → Shared → Prop} (hit : s.heap.IsTupleIter I l i) (hQ : Q () s) :
    wpAny (model prog w) A (letOwnedTupleGo (.Tuple elts x1 pos) (.ref I) (.ref T)) Q E s := by
  obtain ⟨o, ho, hc, hd⟩ := hit
  unfold letOwnedTupleGo
  refine wpAny_bind (wpAny_load ho ?_)
  rw [hc, hd]
  show wpAny _ A (if (["enumerate", "zip", "dict_itemiterator", "dict_reverseitemiterator", "odict_iterator", "itertools.zip_longest", "itertools.pairwise"].contains "tuple_iterator" &&
      (#[.ref l, .int i 0] : Array Value)[0]? == some (rawInt T)) = true then _ else _) Q E s
  rw [if_neg (by
    intro h
    rw [show (["enumerate", "zip", "dict_itemiterator", "dict_reverseitemiterator", "odict_iterator", "itertools.zip_longest", "itertools.pairwise"].contains "tuple_iterator") = false from by decide, Bool.false_and] at h
    cases h)]
  exact wpAny_pure hQ
theorem walks_tt {prog : Program} {w : World} {A : Around} (hh : A.handled = none) (I ax : Addr) (hne : ax ≠ I) (items : Array Value) (Ts : Nat → Addr) (vals : Nat → Array Value)
    (hit : ∀ j, j < items.size → items[j]? = some (.ref (Ts j))) (hTI : ∀ j, j < items.size → Ts j ≠ I) :
    WalksU prog w A I (I :: ax :: (List.range items.size).map Ts) [I] items.size (fun j v => j < items.size ∧ v = vals j)
      (fun j h => h.IsTupleIter I ax j ∧ h.IsTuple ax items ∧ ∀ k, k < items.size → h.IsTuple (Ts k) (vals k))
      (fun j T h => (j < items.size ∧ T = Ts j) ∧ h.IsTupleIter I ax (j + 1) ∧ h.IsTuple ax items ∧ ∀ k, k < items.size → h.IsTuple (Ts k) (vals k)) where
  sub := fun b hb => by simp at hb; simp [hb]
  frame := fun _ _ _ st hk => ⟨st.1.at fun o e => hk I (by simp) o e, st.2.1.at fun o e => hk ax (by simp) o e,
    fun k hk' => (st.2.2 k hk').at fun o e => hk (Ts k) (List.mem_cons_of_mem _ (List.mem_cons_of_mem _ (List.mem_map.mpr ⟨k, List.mem_range.mpr hk', rfl⟩))) o e⟩
  item := fun i s Q E hi st hQ => by
    refine wpAny_pyNext_tuple_item st.1 st.2.1 (x := .ref (Ts i)) (hit i hi) fun h' hit' hs' => ?_
    have tup : ∀ k, k < items.size → h'.IsTuple (Ts k) (vals k) := fun k hk' => (st.2.2 k hk').extBut hs'.extBut (hTI k hk')
    exact hQ (Ts i) (vals i) h' s.toks ⟨hi, rfl⟩ (tup i hi) ⟨⟨hi, rfl⟩, hit', st.2.1.extBut hs'.extBut hne, tup⟩ fun b o hb e => hs'.extBut b o (fun h => hb (by simp [h])) e
  go := fun _ _ _ _ _ s Q _ hm hQ => letGo_tupleiter hm.2.1 (hQ s.heap hm.2 fun _ _ _ e => e)
  apart := fun j T _ hm hmem => by
    rcases List.mem_cons.mp hmem with e | e
    · exact hTI j hm.1.1 (hm.1.2 ▸ e)
    · cases e
  done := fun s Q E st hQ => wpAny_pyNext_tuple_end hh st.1 st.2.1 (by simp) fun h' he' => hQ h' s.toks fun b o hb e => he' b o (fun h => hb (by simp [h])) e
  self := fun _ _ _ _ st hQ => wpAny_pyIter_tupleiter st.1 hQ
/-- captured names and what they hold -/
inductive FrD (h : Heap) (cells : List (Str × Addr)) : List Str → List PyData → Prop
  | nil : FrD h cells [] []
  | cons {x : Str} {xs : List Str} {d : PyData} {ds : List PyData} {c : Addr} {u : Value} : cells.lookup x = some c → h.IsCell c (some u) → Vd h u d → szD d → FrD h cells xs ds → FrD h cells (x :: xs) (d :: ds)
inductive CapD (K : PySem.W.Frag) (H : Hp) (σ : L2.St) : List Nat → List PyData → Prop
  | nil : CapD K H σ [] []
  | cons {i : Nat} {is : List Nat} {v : V} {d : PyData} {ds : List PyData} : σ[i]? = some (some v) → Dq K H v d → CapD K H σ is ds → CapD K H σ (i :: is) (d :: ds)
def tw (q : PyData × PyData) : PyData := .tuple [q.1, q.2]
def EltTF (X : Cx) (k : Nat) (scope : Scope) (xa xb : Str) (xs : List Str) (elt : Expr) (dom : List PyData → PyData × PyData → Prop) (pb : List PyData → PyData × PyData → Bool) : Prop :=
  ∀ (en : Env) (m : Str → Option Value) (h0 : Heap) (va vb : Value) (q : PyData × PyData) (fd : List PyData), en.scope = scope → Qc X.K X.mg X.base en → m xa = some va → m xb = some vb → Vd h0 va q.1 → Vd h0 vb q.2 → FrD h0 en.cells xs fd → dom fd q → QE X.prog X.w X.base h0 k en m elt (.bool (pb fd q))
inductive CapN (X : Cx) (scope : Scope) : List Str → List Nat → Prop
  | nil : CapN X scope [] []
  | cons {x : Str} {xs : List Str} {i : Nat} {is : List Nat} : X.N[i]? = some x → X.env.kindOf x = some .cell → (x, NameKind.free) ∈ scope.names → CapN X scope xs is → CapN X scope (x :: xs) (i :: is)
structure GenTF (X : Cx) (scope : Scope) (xa xb : Str) (xs : List Str) (is : List Nat) : Prop where
  kind : scope.kind = .function
  co : scope.isCoroutine = false
  cell : ∀ y ∈ scope.names, y.2 ≠ .cell
  dot : scope.names.lookup (".0" : Str) = some NameKind.local
  la : scope.names.lookup xa = some .local
  lb : scope.names.lookup xb = some .local
  ab : xa ≠ xb
  free : ∀ y ∈ scope.names, y.2 = .free → ∃ c, X.env.cells.lookup y.1 = some c
  cap : CapN X scope xs is
section
variable {X : Cx} {pins : List (Addr × Obj)} {σ : L2.St} {H : Hp} {s : Shared}
theorem clo_lookup {cells : List (Str × Addr)} {names : List (Str × NameKind)} {x : Str} (hx : (x, NameKind.free) ∈ names) : (cloFrom cells names []).lookup x = some ((cells.lookup x).getD 0) := by
  obtain ⟨c', e'⟩ := mem_lookup (cloFrom_has (cells := cells) (acc := []) hx)
  rw [e']
  rcases cloFrom_mem (PySem.mem_of_lookup e') with h | h
  · cases h
  · rw [h.2]
theorem cap_fr {xs : List Str} {is : List Nat} {fd : List PyData} {scope : Scope} (I : Inv X pins σ H s) (h : CapN X scope xs is) (c : CapD X.K H σ is fd) :
    FrD s.heap (cloFrom X.env.cells scope.names []) xs fd := by
  induction h generalizing fd with
  | nil => cases c; exact .nil
  | cons n1 n2 n3 _ ih =>
    cases c with
    | cons e1 e2 e3 =>
      obtain ⟨m, _, hl⟩ := I.loc
      obtain ⟨u, ru, lk⟩ := hl _ _ _ n1 e1 (.inr (.inl n2))
      rcases lk with ⟨z, _⟩ | ⟨_, c, hc, hcell⟩
      · rw [n2] at z; cases z
      · obtain ⟨as, r, _⟩ := e2.reads I u ru
        refine .cons ?_ hcell ⟨as, r⟩ (Dq.sz I e2) (ih e3)
        rw [clo_lookup n3, hc]
        rfl
theorem FrD.but {h h' : Heap} {P : Addr} {ps : Array Value} (k : ∀ b o, b ≠ P → h.get? b = some o → h'.get? b = some o) (p0 : h.get? P = some { cls := .none, data := .fields ps }) {cells : List (Str × Addr)} {xs : List Str} {fd : List PyData} (f : FrD h cells xs fd) : FrD h' cells xs fd := by
  induction f with
  | nil => exact .nil
  | cons a b r z _ ih =>
    obtain ⟨o, e1, e2⟩ := b
    obtain ⟨as, r⟩ := r
    refine .cons a ⟨o, k _ _ (fun q => ?_) e1, e2⟩ ⟨as, reads_but k p0 rfl r⟩ z ih
    rw [q, p0] at e1
    cases e1
    cases e2
def pairB (f : PyData × PyData → Bool) : PyData → Bool
  | .tuple [a, b] => f (a, b)
  | _ => false
theorem pair_all {f : PyData × PyData → Bool} (l : List (PyData × PyData)) : (l.map tw).all (pairB f) = l.all f := by
  rw [List.all_map]
  rfl
theorem vd_two {h : Heap} {v : Value} {q : PyData × PyData} (r : Vd h v (tw q)) : ∃ T va vb, v = .ref T ∧ h.IsTuple T #[va, vb] ∧ Vd h va q.1 ∧ Vd h vb q.2 := by
  obtain ⟨t, its, rfl, ht, ha⟩ := vd_tup r
  obtain ⟨l⟩ := its
  cases ha with
  | cons a b => cases b with
    | cons b c => cases c; exact ⟨t, _, _, rfl, ht, a, b⟩
theorem genTF {c P : Addr} {elt iter : Expr} {xa xb : Str} {qa qb qt gpos : Pos} {kt : Nat} {scope : Scope} {xs : List Str} {is : List Nat} {dom : List PyData → PyData × PyData → Prop} {pb : List PyData → PyData × PyData → Bool} {te : TE} {k : Nat} {W : Value → Shared → Prop} {R : List (PyData × PyData) → List PyData → Hp → Prop}
    (hr : Room (k + 1) X.A) (TB : TabB X.base X.mg c P) (hcode : X.env.code = .ref c) (S : GenTF X scope xa xb xs is) (hi : PE X iter te) (hel : EltTF X k scope xa xb xs elt dom pb)
    (hs : ∀ v, genFold iter X.env v = pure v) (I : Inv X pins σ H s) (h : te σ H fun v H1 => ∃ pr fd, Dq X.K H1 v (.tuple (pr.map tw)) ∧ CapD X.K H1 σ is fd ∧ (∀ q ∈ pr, dom fd q) ∧ TabG H1 P ∧ R pr fd H1)
    (hQ : ∀ pr fd H1 g z, R pr fd H1 → ReadyD X pins σ H1 P (pr.map tw) (pairB (pb fd)) g z → W (.ref g) z) :
    wpAny (model X.prog X.w) X.A (eval (.GeneratorExp elt [⟨.Tuple [.Name xa qa, .Name xb qb] kt qt, iter, [], 0⟩] scope gpos) X.env) W X.xe s := by
  refine wpAny_GeneratorExp_walksQTD hr.hd S.co (closure_ok S.free) S.cell S.dot S.la S.lb S.ab S.kind hr.depth (thn (hi.run pins s σ H _ I h) ?_) hs
  rintro xv s1 ⟨v, H1, I1, r1, pr, fd, hd, hcap, hdom, ⟨ps, hP, ht⟩, q1⟩
  obtain ⟨asv, rv, _⟩ := hd.reads I1 xv r1
  obtain ⟨tt, its, rfl, hit, hva⟩ := vd_tup ⟨asv, rv⟩
  have hsz : its.size = pr.length := by rw [← List.length_map (f := tw), ← hva.len, Array.length_toList]
  have hfr := cap_fr I1 S.cap hcap
  have each : ∀ j, ∃ q : Addr × Value × Value, ∀ hj : j < pr.length, its[j]? = some (.ref q.1) ∧ s1.heap.IsTuple q.1 #[q.2.1, q.2.2] ∧ Vd s1.heap q.2.1 pr[j].1 ∧ Vd s1.heap q.2.2 pr[j].2 := by
    intro j
    by_cases hj : j < pr.length
    · obtain ⟨v', hv', rv'⟩ := hva.get (i := j) (d := tw pr[j]) (by rw [List.getElem?_map, List.getElem?_eq_getElem hj]; rfl)
      obtain ⟨T, va, vb, rfl, a1, a2, a3⟩ := vd_two rv'
      exact ⟨(T, va, vb), fun _ => ⟨by rw [← Array.getElem?_toList]; exact hv', a1, a2, a3⟩⟩
    · exact ⟨default, fun q => absurd q hj⟩
  obtain ⟨qf, hqf⟩ := Classical.axiomOfChoice each
  have tlt : tt < s1.heap.objs.size := let ⟨_, e, _⟩ := hit; Heap.lt_size e
  have qlt : ∀ j, j < its.size → (qf j).1 < s1.heap.objs.size := fun j hj => let ⟨_, ⟨_, e, _⟩, _⟩ := hqf j (by omega); Heap.lt_size e
  refine wpAny_pyIter_tuple hit ⟨I1.nolimit.push _, code_then I1 TB hcode hP ht fun cv h3 tk more up lt hp ht' lim => ?_⟩
  have p0 : s1.heap.get? P = some { cls := .none, data := .fields ps } := I1.hok P _ hP
  have pl : P < s1.heap.objs.size := Heap.lt_size p0
  have at1 : ∀ b, b ∈ [s1.heap.objs.size] → b = s1.heap.objs.size := fun b hb => List.mem_singleton.mp hb
  have cl : cStatics < s1.heap.objs.size := let ⟨_, n, _⟩ := I1.nolimit; n.lt
  have notP : ∀ {T its'}, s1.heap.IsTuple T its' → T ≠ P := fun {T its'} hT e => by
    obtain ⟨o, e1, e2, _⟩ := hT
    rw [e, p0] at e1
    cases e1
    cases e2
  have up0 : ∀ b u, b ≠ P → s1.heap.get? b = some u → h3.get? b = some u := fun b u n e => by
    exact up b u n (Heap.get?_push_of_some _ e)
  have tn : tt ≠ s1.heap.objs.size := Nat.ne_of_lt tlt
  refine ⟨s1.heap.objs.size, s1.heap.objs.size :: tt :: (List.range its.size).map (fun j => (qf j).1), [s1.heap.objs.size], its.size, _, _, _, fun _ => true, fun i y => ∃ d, (pr.map tw)[i]? = some d ∧ y = .bool (pairB (pb fd) d), rfl,
    fun A' hh => walks_tt hh _ _ tn its (fun j => (qf j).1) (fun j => #[(qf j).2.1, (qf j).2.2]) (fun j hj => (hqf j (by omega)).1) (fun j hj => Nat.ne_of_lt (qlt j hj)), fun i vals hv => ⟨_, _, hv.2⟩, ⟨⟨_, up _ _ (fun e => ?_) (Heap.get?_push_size _ rfl), rfl, rfl⟩, ?_, fun j hj => ?_⟩, fun b hb => ?_, lim, fun z => ?_, fun href hh => ?_, ?_⟩
  · rw [← e] at pl
    exact Nat.lt_irrefl _ pl
  · have nP := notP hit
    obtain ⟨o, e1, e2⟩ := hit
    exact ⟨o, up0 _ _ nP e1, e2⟩
  · have hT := (hqf j (by omega)).2.1
    have nP := notP hT
    obtain ⟨o, e1, e2⟩ := hT
    exact ⟨o, up0 _ _ nP e1, e2⟩
  · rcases List.mem_cons.mp hb with e | e
    · rw [e]; exact lt
    · rcases List.mem_cons.mp e with e | e
      · rw [e]
        exact Nat.lt_trans tlt lt
      · obtain ⟨j, hj, rfl⟩ := List.mem_map.mp e
        exact Nat.lt_trans (qlt j (List.mem_range.mp hj)) lt
  · rw [at1 _ z] at cl
    exact Nat.lt_irrefl _ cl
  · constructor
    · intro B E' i va vb z m _ _ _ _ _ _ _ _
      rw [List.forIn_nil]
      exact wpAny_pure ⟨rfl, keeps_refl _⟩
    · intro B E' i va vb z m hB hD hU hv _ hn hma hmb hk
      obtain ⟨hi1, hv⟩ := hv
      have hi2 : i < pr.length := by omega
      obtain ⟨_, _, rz1, rz2⟩ := hqf i hi2
      have ea : va = (qf i).2.1 := by
        have := congrArg (fun a : Array Value => a[0]?) hv
        exact Option.some.inj this
      have eb : vb = (qf i).2.2 := by
        have := congrArg (fun a : Array Value => a[1]?) hv
        exact Option.some.inj this
      have keepA : ∀ b o, b ≠ P → s1.heap.get? b = some o → z.heap.get? b = some o := fun b o nb e => by
        have lb : b < s1.heap.objs.size := Heap.lt_size e
        refine hk b (List.mem_range.mpr (Nat.lt_trans lb lt)) (fun q => ?_) _ (hh _ _ (up0 b o nb e))
        rw [at1 b q] at lb
        exact Nat.lt_irrefl _ lb
      have room : Room k B := ⟨hB, by have := hr.dp; omega, by have := hr.un; omega⟩
      have rq1 : Vd z.heap va pr[i].1 := by
        rw [ea]
        obtain ⟨as2, r2⟩ := rz1
        exact ⟨as2, reads_but keepA p0 rfl r2⟩
      have rq2 : Vd z.heap vb pr[i].2 := by
        rw [eb]
        obtain ⟨as2, r2⟩ := rz2
        exact ⟨as2, reads_but keepA p0 rfl r2⟩
      refine thn (hel _ m z.heap va vb pr[i] fd rfl ⟨I1.mod, S.kind, ?_, rfl⟩ hma hmb rq1 rq2 (hfr.but keepA p0) (hdom _ (List.getElem_mem hi2)) B E' z ⟨room, fun b o e => ?_, fun _ _ e => e, hn⟩) fun y z' r => ⟨⟨tw pr[i], by rw [List.getElem?_map, List.getElem?_eq_getElem hi2]; rfl, vd_bool r.1⟩, r.2⟩
      · exact I1.ok.glob
      · obtain ⟨e1, e2⟩ := I1.bs b o e
        exact keepA b o (fun q => by rw [q, hP] at e2; cases e2) e1
  · intro g h5 tk5 gs gb ag sz5 k5 W5 hat
    simp only [GxR.passing_true, List.length_range] at W5
    have hsz' : its.size = (pr.map tw).length := by rw [hsz, List.length_map]
    rw [hsz'] at W5 hat
    refine hQ pr fd H1 g _ q1 ⟨_, _, _, _, _, W5.in4_1, hat, ?_, fun s' mv => ?_⟩
    · rintro j y z Q' E' ⟨i, hij, d, hd2, rfl⟩ q
      obtain ⟨hj, ej⟩ := List.getElem?_eq_some_iff.mp hij
      rw [List.getElem_range] at ej
      cases ej
      have q' : Q' (trD (pairB (pb fd)) (pr.map tw) j) z := q
      unfold trD at q'
      rw [hd2] at q'
      exact wpAny_truthy_bool q'
    · have nw : ∀ b u, s1.heap.get? b = some u → b ∉ h3.objs.size :: [s1.heap.objs.size] := fun b u e hb => by
        have l := Heap.lt_size e
        have l2 : s1.heap.objs.size < h3.objs.size := lt
        rcases List.mem_cons.mp hb with z | z
        · rw [z] at l
          exact Nat.lt_asymm l l2
        · rw [at1 b z] at l
          exact Nat.lt_irrefl _ l
      have J := inv_tab (more := more) (h' := s'.heap) (g' := s'.gens) (d' := s'.drawn) (t' := s'.toks) I1 hP (fun b u n e => mv.heap b u (nw b u e) (k5 b u (up0 b u n e))) (mv.heap P _ (nw P _ p0) (k5 P _ hp)) (AllBare.movedS (I1.bare.push gb) mv)
      have es : ({ s1 with heap := s'.heap, gens := s'.gens, drawn := s'.drawn, toks := s'.toks } : Shared) = s' := by
        obtain ⟨_, _, _, _, _⟩ := s'
        have := mv.os
        dsimp only at this
        rw [this]
      rw [es] at J
      exact ⟨upd H1 P (.tbl (ps ++ more)), ⟨⟨_, upd_same, ht'⟩, fun b hb => upd_ne hb⟩, J⟩
def tAllTF (K : PySem.W.Frag) (P : Addr) (is : List Nat) (dom : List PyData → PyData × PyData → Prop) (pb : List PyData → PyData × PyData → Bool) (te : TE) : TE := fun σ H Q => te σ H fun v H1 => ∃ (pr : List (PyData × PyData)) (fd : List PyData), Dq K H1 v (.tuple (pr.map tw)) ∧ CapD K H1 σ is fd ∧ (∀ q ∈ pr, dom fd q) ∧ TabG H1 P ∧ ∀ H2, Tabbed P H1 H2 → Q (.bl (pr.all (pb fd))) H2
/-- all(elt for a, b in e), e a tuple of pairs -/
theorem pe_allTF {c P : Addr} {elt iter : Expr} {xa xb : Str} {qa qb qt p pos gpos : Pos} {kt : Nat} {scope : Scope} {xs : List Str} {is : List Nat} {dom : List PyData → PyData × PyData → Prop} {pb : List PyData → PyData × PyData → Bool} {te : TE} {k : Nat}
    (hr : Room (k + 1) X.A) (hg : Gl X "all") (hm : X.mg "all" = none) (TB : TabB X.base X.mg c P) (hcode : X.env.code = .ref c) (S : GenTF X scope xa xb xs is) (hi : PE X iter te) (hel : EltTF X k scope xa xb xs elt dom pb)
    (hs : ∀ v, genFold iter X.env v = pure v)
    (he : starEach [.GeneratorExp elt [⟨.Tuple [.Name xa qa, .Name xb qb] kt qt, iter, [], 0⟩] scope gpos] X.env = (false, eval (.GeneratorExp elt [⟨.Tuple [.Name xa qa, .Name xb qb] kt qt, iter, [], 0⟩] scope gpos) X.env) :: starEach [] X.env := by rfl) :
    PE X (.Call (.Name "all" p) [.GeneratorExp elt [⟨.Tuple [.Name xa qa, .Name xb qb] kt qt, iter, [], 0⟩] scope gpos] [] pos) (tAllTF X.K P is dom pb te) := by
  refine ⟨fun pins s σ H Q I h => wpAny_Call_Name_kw (ld_blt I hg hm boot_all (PyProof.Rows.callWith_builtin1 ?_ he (by rfl)))⟩
  rw [he]
  show wpAny _ _ (spliced ((false, eval (.GeneratorExp elt [⟨.Tuple [.Name xa qa, .Name xb qb] kt qt, iter, [], 0⟩] scope gpos) X.env) :: backTo pos (starEach [] X.env))) _ _ s
  refine Calls.spliced_cons (genTF (R := fun pr fd H1 => ∀ H2, Tabbed P H1 H2 → Q (.bl (pr.all (pb fd))) H2) hr TB hcode S hi hel hs I h ?_)
  rintro pr fd H1 g z hR ⟨fp, wr, G, F, St, W, hst, htr, hI⟩
  refine Calls.spliced_nil (call_all_walkS (W.self 0 _ _ _ hst ⟨g, fp, wr, G, _, F, St, _, rfl, W, hst, htr, fun s' mv => ?_⟩))
  obtain ⟨H2, hT, J⟩ := hI s' mv
  rw [trD_all (pairB (pb fd)) (pr.map tw), pair_all]
  exact ⟨.bl _, H2, J, rfl, hR H2 hT⟩
end
end Gr

set_option Elab.async false
set_option maxRecDepth 100000
set_option maxHeartbeats 2000000
set_option linter.all false
/-! Ours: quiet code, more: captured names, a - b, -a, e[i] of any sign. -/
namespace Gr
open PySem PySem.Spec PyProof.Rows L2 GxR
section
variable {P : Program} {w : World} {K : PySem.W.Frag} {mg : Str → Option Value} {base h0 : Heap} {k : Nat} {env : Env} {m : Str → Option Value}
theorem qe_free {x : Str} {p : Pos} {c : Addr} {u : Value} {d : PyData} (C : Qc K mg base env) (hl : env.scope.names.lookup x = some .free) (hc : env.cells.lookup x = some c) (hv : h0.IsCell c (some u)) (hr : Vd h0 u d) (hn : (x == ("__classdict__" : Str)) = false := by decide) (hd : (x == ("__debug__" : Str)) = false := by decide) :
    QE P w base h0 k env m (.Name x p) d := fun B E z q => by
  obtain ⟨o, e1, e2⟩ := hv
  exact wpAny_Name (wpAny_loadName_free C.kind hl hc ⟨o, q.up _ _ e1, e2⟩ ⟨hr.up q.up, keeps_refl _⟩ hn) hd
theorem qe_sub {a b : Expr} {i j : Int} {pos : Pos} (ha : QE P w base h0 k env m a (.int i)) (hb : QE P w base h0 k env m b (.int j)) : QE P w base h0 k env m (.BinOp a .Sub b pos) (.int (i - j)) := by
  intro B E z q
  refine wpAny_BinOp (thn (ha B E z q) fun u z1 ⟨r1, k1⟩ => thn (hb B E z1 (q.next k1)) fun v z2 ⟨r2, k2⟩ => ?_)
  obtain ⟨t, rfl⟩ := vd_int r1
  obtain ⟨t', rfl⟩ := vd_int r2
  exact sub_int ⟨⟨_, .int _ _⟩, kt k1 (kt k2 (keeps_tok _ _))⟩
theorem qe_neg {a : Expr} {i : Int} {pos : Pos} (ha : QE P w base h0 k env m a (.int i)) : QE P w base h0 k env m (.UnaryOp .USub a pos) (.int (-i)) := by
  intro B E z q
  refine UnaryOp_ (thn (ha B E z q) fun u z1 ⟨r1, k1⟩ => ?_)
  obtain ⟨t, rfl⟩ := vd_int r1
  exact neg_int ⟨⟨_, .int _ _⟩, kt k1 (keeps_tok _ _)⟩
theorem qe_ixA {e sl : Expr} {i : Int} {pos : Pos} {ds : List PyData} {d : PyData} (he : QE P w base h0 k env m e (.tuple ds)) (hi : QE P w base h0 k env m sl (.int i)) (ha : atI ds i = some d) (hl : ds.length ≤ sizeLine) (hs : ∀ o v, subscripted sl false o v = operate [o, v] (getItem o v) := by intro _ _; with_unfolding_all rfl) :
    QE P w base h0 k env m (.Subscript e sl pos) d := by
  intro B E z q
  refine Subscript_ (thn (he B E z q) fun u z1 ⟨r1, k1⟩ => thn (hi B E z1 (q.next k1)) fun x z2 ⟨r2, k2⟩ => ?_)
  obtain ⟨t, its, rfl, ht, hall⟩ := vd_tup (r1.up (kk k2))
  obtain ⟨t', rfl⟩ := vd_int r2
  have hn := line63
  have hz : its.size = ds.length := by
    have := hall.len
    rw [← this, Array.length_toList]
  obtain ⟨j, e1, e2, e3, e4, e5⟩ := atI_get ha
  obtain ⟨v, hv, rv⟩ := hall.get e2
  have hv' : its[j]? = some v := by rw [← Array.getElem?_toList]; exact hv
  refine subscriptTail_builtinR (x := v) ht.typeIs slot_tuple_getitem.lookup (getItem_tuple (j := j) (Q := fun r s' => r = v ∧ (Vd s'.heap r d ∧ Keeps z s')) ht (by omega) (by omega) (by rw [hz]; exact e1) hv' ⟨rfl, rv, kt k1 k2⟩) (hs _ _)
theorem qe_lt {a b : Expr} {i j : Int} {pos : Pos} (ha : QE P w base h0 k env m a (.int i)) (hb : QE P w base h0 k env m b (.int j)) (hm : behindInMarks .Lt b = false := by with_unfolding_all rfl) : QE P w base h0 k env m (.Compare a [.Lt] [b] pos) (.bool (decide (i < j))) :=
  qe_cmp (c := fun i j => decide (i < j)) ha hb (fun q => lt_int q) hm
theorem qe_ge {a b : Expr} {i j : Int} {pos : Pos} (ha : QE P w base h0 k env m a (.int i)) (hb : QE P w base h0 k env m b (.int j)) (hm : behindInMarks .GtE b = false := by with_unfolding_all rfl) : QE P w base h0 k env m (.Compare a [.GtE] [b] pos) (.bool (decide (j ≤ i))) :=
  qe_cmp (c := fun i j => decide (j ≤ i)) ha hb (fun q => ge_int q) hm
end
end Gr

set_option Elab.async false
set_option maxRecDepth 100000
set_option maxHeartbeats 4000000
set_option linter.all false
/-! Ours: t[::-1] of a tuple. -/
namespace Gr
open PySem PySem.Spec PyProof.Rows L2 GxR HT
theorem all_at {α : Type} : ∀ l : List α, (List.range l.length).filterMap (fun k => l[k]?) = l
  | [] => rfl
  | a :: l => by
    rw [List.length_cons, List.range_succ_eq_map, List.filterMap_cons]
    show a :: _ = _
    rw [List.filterMap_map]
    exact congrArg (a :: ·) (all_at l)
theorem fm_congr {α β : Type} {f g : α → Option β} : ∀ l : List α, (∀ k ∈ l, f k = g k) → l.filterMap f = l.filterMap g
  | [], _ => rfl
  | a :: l, h => by
    rw [List.filterMap_cons, List.filterMap_cons, h a List.mem_cons_self, fm_congr l fun k hk => h k (List.mem_cons_of_mem _ hk)]
theorem pick_rev (xs : Array Value) : ((List.range xs.size).filterMap fun (k : Nat) => xs[(((xs.size : Int) - 1) + (k : Int) * (-1)).toNat]?).toArray = xs.toList.reverse.toArray := by
  have h := all_at xs.toList.reverse
  rw [List.length_reverse, Array.length_toList] at h
  rw [← h]
  congr 1
  refine fm_congr _ fun k hk => ?_
  have hk := List.mem_range.mp hk
  rw [List.getElem?_reverse (by rw [Array.length_toList]; exact hk), Array.length_toList, Array.getElem?_toList]
  congr 1
  omega
theorem sliceApplied_rev {prog : Program} {w : World} {A : Around} {E : Value → Shared → Prop} {s : Shared} {sl : Addr} {n : Nat} {u : Tok} {Q : Int × Int × Nat → Shared → Prop} (hs : s.heap.IsSliceOf sl .none .none (.int (-1) u))
    (h : Q ((n : Int) - 1, -1, n) s) : wpAny (model prog w) A (Builtin.Slice.sliceApplied (.ref sl) (pure (n : Int))) Q E s := by
  obtain ⟨os, hos, hcs, hds⟩ := id hs
  unfold Builtin.Slice.sliceApplied Builtin.Slice.sliceFields
  refine wpAny_bind (wpAny_bind (wpAny_field hos hds (x := .none) rfl (wpAny_bind (wpAny_field hos hds (x := .none) rfl (wpAny_bind (wpAny_field hos hds (x := .int (-1) u) rfl (wpAny_pure ?_)))))))
  refine wpAny_bind (slicePart_ (o := some (-1)) (by first | exact ⟨u, rfl⟩ | exact .int _ _ | rfl) ?_)
  show wpAny _ _ (if ((-1 : Int) == 0) = true then _ else _) _ _ s
  rw [if_neg (by decide)]
  refine wpAny_bind (slicePart_none (wpAny_bind (slicePart_none (wpAny_bind (wpAny_pure ?_)))))
  have e : Builtin.Slice.slicePlaces ((n : Int) - 1) (-1) (-1) = n := by
    unfold Builtin.Slice.slicePlaces
    rw [if_neg (by decide)]
    by_cases z : n = 0
    · subst z
      rfl
    · rw [if_pos (by omega), show -(-1 : Int) = 1 from rfl, Int.ediv_one]
      omega
  show wpAny _ _ (pure ((n : Int) - 1, (-1 : Int), Builtin.Slice.slicePlaces ((n : Int) - 1) (-1) (-1))) _ _ s
  rw [e]
  exact wpAny_pure h
theorem getItem_tuple_rev {prog : Program} {w : World} {A : Around} {E : Value → Shared → Prop} {s : Shared} {t sl : Addr} {items : Array Value} {u : Tok} {Q : Value → Shared → Prop} (ht : IsTup s.heap t items) (hs : s.heap.IsSliceOf sl .none .none (.int (-1) u))
    (h : Q (.ref s.heap.objs.size) { s with heap := s.heap.push { cls := .type "tuple", data := .seq items.toList.reverse.toArray } }) (hsz : items.size ≤ sizeLine) : wpAny (model prog w) A (getItem (.ref t) (.ref sl)) Q E s := by
  obtain ⟨os, hos, hcs, hds⟩ := id hs
  have hTs : s.TypeIs (.ref sl) "slice" := ⟨os, hos, hcs⟩
  unfold getItem
  try with_reducible refine wpAny_holding ?_
  first | refine wpAny_bind (wpAny_pure ?_) | skip
  refine wpAny_bind (wpAny_sequenceKey ht.typeIs (by decide) ?_)
  refine wpAny_bind (wpAny_callSpecial?_slot (name := Str.ofString "__getitem__") ht.typeIs PyProof.Rows.slot_tuple_getitem
    (wpAny_call_entry PyProof.Rows.slot_tuple_getitem ht.typeIs entry_tuple_getitem ?_ (args_tuple_getitem _ _)))
  show wpAny _ _ (Builtin.Tuple.tupleItemsOf (.ref t) >>= _) _ _ s
  refine wpAny_bind (tupleItemsOf_ ht ?_)
  refine wpAny_bind (wpAny_typeOf hTs ?_)
  rw [if_pos (by decide)]
  refine wpAny_bind (sliceApplied_rev hs ?_)
  have hno : (((items.size : Int) - 1) == 0 && (-1 : Int) == 1 && items.size == items.size) = false := by
    rw [show ((-1 : Int) == 1) = false by decide, Bool.and_false, Bool.false_and]
  show wpAny _ _ (if (((items.size : Int) - 1) == 0 && (-1 : Int) == 1 && items.size == items.size) = true then _ else _) _ _ s
  rw [if_neg (by rw [hno]; decide)]
  rw [pick_rev]
  have htake : sizeOk (.seq items.toList.reverse.toArray) := by
    show items.toList.reverse.toArray.size ≤ sizeLine
    rw [List.size_toArray, List.length_reverse, Array.length_toList]
    exact hsz
  first
    | exact wpAny_bind (m := Builtin.Tuple.tupleExact _) (wpAny_newObj_type (wpAny_pure ⟨_, rfl, wpAny_pure h⟩) htake)
    | exact wpAny_bind (m := Builtin.Tuple.tupleExact _) (wpAny_newObj_type (wpAny_bind (wpAny_pure (wpAny_pure ⟨_, rfl, wpAny_pure h⟩))) htake)
    | exact wpAny_bind (wpAny_bind (m := Builtin.Tuple.tupleExact _) (wpAny_newObj_type (wpAny_pure (wpAny_pure ⟨_, rfl, wpAny_pure h⟩)) htake))
    | exact wpAny_bind (wpAny_bind (m := Builtin.Tuple.tupleExact _) (wpAny_newObj_type (wpAny_pure ⟨_, rfl, wpAny_pure h⟩) htake))
def tRevT (K : PySem.W.Frag) (te : TE) : TE := fun σ H Q => te σ H fun x H1 => ∃ a xs, x = .ref a ∧ SqT K H1 a xs ∧ ∀ p, H1 p = none → Q (.ref p) (upd H1 p (.tup xs.reverse))
section
variable {X : Cx} {te : TE}
/-- t[::-1] -/
theorem pe_revT {e : Expr} {k : Nat} {p1 p2 p3 pos : Pos} (he : PE X e te) : PE X (.Subscript e (.Slice none none (some (.UnaryOp .USub (.Constant (.int 1) k p1) p2)) p3) pos) (tRevT X.K te) := by
  refine ⟨fun pins s σ H Q I h => ?_⟩
  refine Subscript_ (thn (he.run pins s σ H _ I h) fun v s1 ⟨x, H1, I1, r1, q1⟩ => ?_)
  obtain ⟨a, xs, ex, hx, q⟩ := q1
  subst ex
  cases r1
  have hst : PO X (some (.UnaryOp .USub (.Constant (.int 1) k p1) p2)) (tPart (tUn (rU fun i => .int (-i)) (tC (.int 1)))) := po_some (pe_un un_neg pe_int)
  refine wpAny_Slice (thn (po_none.run pins s1 σ H1 (fun o H2 => o = none ∧ H2 = H1) I1 ⟨rfl, rfl⟩) fun vl s2 ⟨l, H2, I2, pl, el, e2⟩ => ?_)
  subst el e2
  refine thn (po_none.run pins s2 σ H2 (fun o H3 => o = none ∧ H3 = H2) I2 ⟨rfl, rfl⟩) fun vu s3 ⟨u, H3, I3, pu, eu, e3⟩ => ?_
  subst eu e3
  refine thn (hst.run pins s3 σ H3 (fun o H4 => o = some (-1) ∧ H4 = H3) I3 ⟨1, rfl, -1, rfl, rfl, rfl⟩) fun vs s4 ⟨o, H4, I4, ps, eo, e4⟩ => ?_
  subst eo e4
  have I5 : Inv X pins σ H4 { s4 with heap := s4.heap.push { cls := .type "slice", data := .fields #[vl, vu, vs] } } := I4.kept (t' := s4.toks) fun b ob q => Heap.get?_push_of_some _ q
  obtain ⟨its, r, ht, hz⟩ := I5.tuple hx
  have hlen := r.length
  cases pl
  cases pu
  cases ps with
  | int i t =>
  show wpAny (model X.prog X.w) X.A (subscriptTail e (.Slice none none (some (.UnaryOp .USub (.Constant (.int 1) k p1) p2)) p3) (.ref a) (.ref s4.heap.objs.size)) (EP X pins σ Q) X.xe { s4 with heap := s4.heap.push { cls := .type "slice", data := .fields #[.none, .none, .int (-1) t] } }
  refine tail_any (ops := [.ref a, .ref s4.heap.objs.size]) ht.typeIs (PyProof.Rows.slot_tuple_getitem.lookup) ?_ (by with_unfolding_all rfl)
  refine getItem_tuple_rev ht (Heap.IsSliceOf.new _ .none .none (.int (-1) t)) ?_ (by rw [List.size_toArray]; omega)
  refine ⟨.ref _, _, I5.laid (t' := s4.toks) (o := .tup xs.reverse) (fun b ob q => Heap.get?_push_of_some _ q) (Nat.le_refl _) ?_, rfl, q _ (I5.hok.fresh (Nat.le_refl _))⟩
  exact ⟨by rw [List.length_reverse]; exact hlen ▸ hz, _, r.reverse, IsTup.new _ _⟩
end
end Gr

set_option Elab.async false
set_option maxRecDepth 100000
set_option maxHeartbeats 4000000
set_option linter.all false
/-! Ours: sorted(a tuple of numbers). -/
namespace Gr
open PySem PySem.Spec PyProof.Rows L2 GxR SrtO
section
variable {prog : Program} {w : World} {A : Around} {E : Value → Shared → Prop} {s : Shared}
def colH (h : Heap) (vs : List Value) : Heap := (h.push (seqObj "list" #[] 0)).update h.objs.size (Obj.mapSeq (· ++ vs.toArray))
theorem colH_size (h : Heap) (vs : List Value) : (colH h vs).objs.size = h.objs.size + 1 := by unfold colH; rw [Heap.size_update, size_push']
theorem colH_old {h : Heap} {vs : List Value} {b : Addr} {o : Obj} (q : h.get? b = some o) : (colH h vs).get? b = some o := by
  unfold colH
  rw [Heap.get?_update_ne _ _ _ _ (Nat.ne_of_lt (Heap.lt_size q))]
  exact Heap.get?_push_of_some _ q
/-- the elements of a tuple, gathered -/
theorem gather_tup {t : Addr} {vs : List Value} {Q : List Value → Shared → Prop} (ht : IsTup s.heap t vs.toArray) (hz : vs.length ≤ sizeLine) (k : Q vs { s with heap := colH s.heap vs }) : wpAny (model prog w) A (collect (.ref t)) Q E s := by
  obtain ⟨o, go, co, m, dt⟩ := id ht
  unfold collect
  refine wpAny_bind (wpAny_runValue (codeAny_builtin entry_proto_collect' (?_ : wpAny _ _ _ _ _ _)))
  show wpAny _ _ (do let l ← newList []; again (.builtin "list.__iadd__" ⟨[l, .ref t], []⟩)) _ _ s
  refine wpAny_bind (wpAny_newList (wpAny_pure (And.intro (Code.quiet_builtin _ (by decide +kernel)) (codeAny_builtin entry_list_iadd' ?_))))
  show wpAny _ _ (Builtin.List.listExtendWith (.ref (s.heap.objs.size)) (.ref t) (.ref (s.heap.objs.size))) _ _ (Shared.mk _ _ _ _ _)
  unfold Builtin.List.listExtendWith
  have g2 : (s.heap.push (seqObj "list" #[] 0)).get? t = some o := Heap.get?_push_of_some (seqObj "list" #[] 0) go
  refine wpAny_bind (wpAny_typeOf (T := "tuple") ⟨o, g2, co⟩ ?_)
  rw [if_pos (by rw [show (Value.type "tuple" == Value.type "tuple") = true from rfl, Bool.or_true])]
  refine wpAny_bind (listItems_at g2 dt (wpAny_bind (listItems_at (xs := #[]) (n := 0) (Heap.get?_push_size _ rfl) rfl ?_)))
  rw [if_neg (by simp)]
  have fits : (#[] ++ vs.toArray : Array Value).size ≤ sizeLine + 1 := by simp only [Array.size_append, List.size_toArray, List.length_nil]; omega
  refine wpAny_bind (listUpdate_at (xs := #[]) (n := 0) (Heap.get?_push_size _ rfl) rfl (wpAny_pure ?_) (Nat.zero_le _) fits)
  show wpAny (model prog w) A (do let r ← load s.heap.objs.size
                                  match r.data with
                                  | .seq xs _ => pure xs.toList
                                  | _ => unsupported "internal:collect") Q E { s with heap := colH s.heap vs }
  refine wpAny_bind (wpAny_load (get?_update_seq (Heap.get?_push_size _ rfl) _) (?_ : wpAny _ _ (pure ((#[] : Array Value) ++ vs.toArray).toList) _ _ _))
  rw [show ((#[] : Array Value) ++ vs.toArray).toList = vs from by simp]
  exact wpAny_pure k
theorem sorted_tup {t : Addr} {vs : List Value} {ns : List Int} {Q : Value → Shared → Prop} (ht : IsTup s.heap t vs.toArray) (hI : IntsAre vs ns) (hz : vs.length ≤ sizeLine)
    (k : ∀ out : List Value, Srtd ltIv out → Stb ltIv out vs → Q (.ref (s.heap.objs.size + 1)) { s with heap := sortedAll s.heap vs out.toArray }) : wpAny (model prog w) A (call (.builtin "sorted") [.ref t]) Q E s := by
  refine call_function_entry_kw kind_sorted plain_sorted entry_sorted (kw := []) (args_sorted1 _) (?_ : wpAny _ _ _ _ _ _)
  unfold Builtin.«sorted»
  refine wpAny_bind (m := checkCount "sorted" 1 1 _) (wpAny_pure (wpAny_bind (gather_tup ht hz (wpAny_bind (wpAny_newList (?_ : wpAny _ _ _ _ _ _) hz)))))
  have hat : ((colH s.heap vs).push (seqObj "list" vs.toArray 0)).get? (s.heap.objs.size + 1) = some (seqObj "list" vs.toArray 0) := by
    rw [← colH_size s.heap vs]
    exact Heap.get?_push_size _ rfl
  have old : ∀ b o, s.heap.get? b = some o → b ≠ s.heap.objs.size + 1 ∧ ((colH s.heap vs).push (seqObj "list" vs.toArray 0)).get? b = some o := fun b o q => ⟨Nat.ne_of_lt (Nat.lt_succ_of_lt (Heap.lt_size q)), Heap.get?_push_of_some _ (colH_old q)⟩
  show wpAny _ _ _ _ _ { s with heap := (colH s.heap vs).push (seqObj "list" vs.toArray 0) }
  rw [show ({ s with heap := colH s.heap vs } : Shared).heap.objs.size = s.heap.objs.size + 1 from colH_size s.heap vs]
  refine wpAny_bind (wpAny_holding (wpAny_call_entry slot_list_sort ⟨_, hat, rfl⟩ entry_list_sort (list_sort_ord swo_int hat hz (fun h2 => ints_sortable hI h2) (fun out h1 h2 => ⟨_, rfl, wpAny_pure ⟨_, rfl, k out h1 h2⟩⟩)) (args_list_sort _)))
end
/-- sorted(a tuple of ints) -/
def rSortedT (K : PySem.W.Frag) : List V → Hp → VK → Prop := fun vs H Q => ∃ (a : Addr) (ns : List Int), vs = [.ref a] ∧ SqT K H a (ns.map V.int) ∧
  ∀ (ms : List Int) (p : Addr), ms.Perm ns → ms.Pairwise (· ≤ ·) → H p = none → Q (.ref p) (upd H p (.lst (ms.map V.int)))
theorem cr_sortedTup {X : Cx} : CallR X (.builtin "sorted") (rSortedT X.K) := by
  intro pins s σ H vs us Q I r h
  obtain ⟨a, ns, rfl, hs, q⟩ := h
  obtain ⟨its, rv, tp, hz⟩ := I.tuple hs
  rw [Vals.ref1 r]
  have hi := rv.ints
  refine sorted_tup tp hi (rv.length ▸ hz) fun out h1 h2 => ?_
  obtain ⟨k1, k2, k3⟩ := ints_out hi h1 h2
  obtain ⟨ep, hat⟩ := sortedAll_at s.heap its out.toArray
  have hl : ((out.map iv).map V.int).length ≤ sizeLine := by
    rw [List.length_map] at hz ⊢
    exact Nat.le_trans (Nat.le_of_eq k2.length_eq) hz
  exact ⟨.ref _, upd H (s.heap.objs.size + 1) (.lst ((out.map iv).map V.int)), I.laid (t' := s.toks) (fun _ _ => sortedAll_old) (Nat.le_succ _) ⟨hl, out, ep, vals_of_ints k1, hat⟩, rfl, q _ _ k2 k3 (I.hok.fresh (Nat.le_succ _))⟩
end Gr

set_option Elab.async false
set_option maxRecDepth 100000
set_option maxHeartbeats 4000000
set_option linter.all false
/-! Ours: t.index(k) of a tuple of numbers. -/
namespace Gr
open PySem PySem.Spec PyProof.Rows L2 GxR
def rIdxI (K : PySem.W.Frag) : V → List V → Hp → VK → Prop := fun x xs H Q => ∃ (p : Addr) (ns : List Int) (k : Int), x = .ref p ∧ xs = [.int k] ∧ SqT K H p (ns.map V.int) ∧ k ∈ ns ∧ Q (.int (ns.idxOf k : Nat)) H
theorem mt_tup_ints {X : Cx} : MtR X "tuple.index" (rIdxI X.K) := by
  intro pins s σ H x xs v us Q I rx rs h
  obtain ⟨p, ns, k, rfl, rfl, hq, hk, q⟩ := h
  cases rx
  obtain ⟨u, rfl, t, rfl⟩ := vals1 rs
  obtain ⟨its, r, pl, hz⟩ := I.tuple hq
  exact PySem.SeqAt.tuple_index_ints pl r.ints hk ⟨.int _, H, I.tok _, ⟨_, rfl⟩, q⟩
theorem mt_tup_intsB {X : Cx} {s : Shared} {H : Hp} {sc : Scope} {en : Env} {fp : List Addr} : MtR (X.blk s H sc en fp) "tuple.index" (rIdxI X.K) := mt_tup_ints
end Gr

set_option Elab.async false
set_option maxRecDepth 100000
set_option maxHeartbeats 4000000
set_option linter.all false
/-! Ours: a new tuple of which the whole object is known (frozen); its index(k); thawed when it is read once more. -/
namespace Gr
open PySem PySem.Spec PyProof.Rows L2 GxR
section
variable {X : Cx}
/-- tuple(a list): a frozen one -/
theorem call_tuple_frz : CallR X (.type "tuple") (fun xs H Q => ∃ p ys, xs = [.ref p] ∧ SqL X.K H p ys ∧ ∀ (l : Addr) (o : Obj), H l = none → o.dict = none → Q (.ref l) (upd H l (.frz o (.tup ys)))) := by
  intro pins s σ H xs us Q I r h
  obtain ⟨p, ys, rfl, hq, q⟩ := h
  obtain ⟨u, rfl, rx⟩ := vals1 r
  cases rx
  obtain ⟨its, rv, pl, hz⟩ := I.list hq
  have hl := rv.length
  refine call_tuple_list pl.isList (fun h2 kp => ?_) (by rw [List.size_toArray]; omega)
  have J := (I.kept (h' := h2) (t' := s.toks) kp).laid (h' := h2.push { cls := .type "tuple", data := .seq its.toArray }) (a := h2.objs.size) (t' := s.toks) (o := .frz { cls := .type "tuple", data := .seq its.toArray } (.tup ys)) (fun b o e => Heap.get?_push_of_some _ e) (Nat.le_refl _)
    ⟨Heap.get?_push_size _ rfl, hz, its, rv, IsTup.new _ _⟩
  exact ⟨.ref h2.objs.size, _, J, rfl, q _ _ ((I.kept (h' := h2) (t' := s.toks) kp).hok.fresh (Nat.le_refl _)) rfl⟩
/-- a name of a frozen thing, thawed -/
def tThaw (H0 : Hp) (te : TE) : TE := fun σ H Q => te σ H fun x H1 => ∃ (d : Addr) (o : Obj) (u : HO), x = .ref d ∧ H1 d = some (.frz o u) ∧ (∀ o' u', H0 d ≠ some (.frz o' u')) ∧ Q (.ref d) (upd H1 d u)
theorem pe_thaw {e : Expr} {te : TE} (h : PE X e te) : PE X e (tThaw X.H_0 te) := by
  refine ⟨fun pins s σ H Q I hq => ?_⟩
  refine thn (h.run pins s σ H _ I hq) fun v s1 ⟨x, H1, I1, r1, q1⟩ => ?_
  obtain ⟨d, o, u, rfl, e1, e2, q2⟩ := q1
  exact ⟨.ref d, _, I1.unlock e1 e2, r1, q2⟩
def tIdxF (k : Int) (to : TE) : TE := fun σ H Q => to σ H fun x H1 => ∃ (d : Addr) (o : Obj) (ns : List Int), x = .ref d ∧ H1 d = some (.frz o (.tup (ns.map V.int))) ∧ o.dict = none ∧ k ∈ ns ∧ Q (.int (ns.idxOf k : Nat)) H1
theorem pe_idxF {o e : Expr} {to : TE} {k : Int} {p1 p2 : Pos} (ho : PE X o to) (he : PE X e (tC (.int k)))
    (h1 : attributeBase o "index" X.env (eval o X.env) = eval o X.env)
    (h2 : ((backTo p2 (starEach [e] X.env)).all (fun x => !x.1) && (backToKw p2 (keywordEach [] X.env)).all (fun x => x.1.isSome) && decide (([e] : List Expr).length + ([] : List Keyword).length + (if ([] : List Keyword).isEmpty then 0 else 1) < 30)) = true)
    (h3 : (p1.endLine == p2.line) = true) (h4 : starEach [e] X.env = (false, eval e X.env) :: starEach [] X.env) (h5 : (backTo p2 (starEach [] X.env)).any (·.1) = false) : PE X (.Call (.Attribute o "index" p1) [e] [] p2) (tIdxF k to) := by
  refine ⟨fun pins s σ H Q I hq => wpAny_Call_method_late h1 h2 h3 rfl (thn (ho.run pins s σ H _ I hq) fun v s1 ⟨x, H1, I1, r1, q1⟩ => ?_)⟩
  obtain ⟨d, ob, ns, rfl, e1, e2, hk, q2⟩ := q1
  have ok := I1.hok d _ e1
  obtain ⟨g1, g2, its, g3, oo, g4, g5, g6⟩ := ok
  cases r1
  have eo : ob = oo := Option.some.inj (g1.symm.trans g4)
  refine ⟨"tuple", "tuple.index", PySem.F.plainAttrs_tuple, PySem.F.slot_tuple_index, PySem.F.type_tuple_index, ⟨ob, g1, eo ▸ g5⟩, fun a ea => by cases ea; exact ⟨ob, g1, e2⟩, ?_⟩
  have hA := (pa_cons he pa_nil h4).run p2 pins s1 σ H1 (fun vs H2 => vs = [.int k] ∧ H2 = H1) I1 ⟨rfl, rfl⟩
  rw [h4] at hA ⊢
  refine Calls.callWith_builtin (by show (false || (backTo p2 (starEach [] X.env)).any (·.1)) = false; rw [h5]; rfl) (Calls.evalArgs_plain (thn hA fun us s2 ⟨vs, H2, I2, r2, a, b⟩ => ?_))
  subst a b
  exact mt_tup_ints pins s2 σ _ (.ref d) [.int k] _ us Q I2 rfl r2 ⟨d, ns, k, rfl, rfl, .inl (.inr ⟨ob, e1⟩), hk, q2⟩
end
end Gr

set_option Elab.async false
set_option maxRecDepth 100000
set_option linter.all false
/-! Ours: the repr of a tuple of numbers; lists of numbers that are equal. -/
namespace Gr
open PySem PySem.Spec PyProof.Rows L2 GxR
theorem shown_num {i : Int} (h0 : 0 ≤ i) (h1 : i < 10 ^ 10) : (PyData.int i).shown.length ≤ 11 := by
  rw [PyData.shown_int]
  show (Str.ofString (toString i)).length ≤ 11
  rw [PySem.ofString_length]
  exact int_text_length_le10 (by decide) (by omega)
theorem showall_nums : ∀ {l : List Int}, (∀ i ∈ l, 0 ≤ i ∧ i < 10 ^ 10) → PyData.showableAll (l.map PyData.int) = true
  | [], _ => rfl
  | i :: l, h => by
    have ih := showall_nums (l := l) fun j hj => h j (List.mem_cons_of_mem _ hj)
    have h1 := h i List.mem_cons_self
    have h2 : i.natAbs.log2 < 1920 := by
      by_cases z : i.natAbs = 0
      · rw [z]; decide
      · exact Nat.lt_of_lt_of_le ((Nat.log2_lt z).mpr (show i.natAbs < 2 ^ 40 by omega)) (by decide)
    simp [PyData.showableAll, PyData.showable, ih, h2]
theorem depthall_nums : ∀ l : List Int, PyData.depthAll (l.map PyData.int) ≤ 2
  | [] => by simp [PyData.depthAll]
  | i :: l => by
    have := depthall_nums l
    simp only [List.map_cons, PyData.depthAll, PyData.depth]
    omega
theorem piled_nums : ∀ {l : List Int}, (∀ i ∈ l, 0 ≤ i ∧ i < 10 ^ 10) → piled (PyData.shownAll (l.map PyData.int)) ≤ 13 * l.length
  | [], _ => by simp [PyData.shownAll, piled_nil]
  | i :: l, h => by
    have ih := piled_nums (l := l) fun j hj => h j (List.mem_cons_of_mem _ hj)
    have h1 := shown_num (h i List.mem_cons_self).1 (h i List.mem_cons_self).2
    simp only [List.map_cons, PyData.shownAll, piled_cons, List.length_cons]
    omega
theorem shown_tup_le (ds : List PyData) : (PyData.tuple ds).shown.length ≤ piled (PyData.shownAll ds) + 3 := by
  rw [PyData.shown_tuple]
  have e1 : ("(" : Str).length = 1 := by decide +kernel
  have e2 : (Str.ofString (if (ds.length == 1) = true then ",)" else ")")).length ≤ 2 := by
    split <;> decide +kernel
  cases ds with
  | nil => decide +kernel
  | cons d r =>
    have h := join_length_add (PyData.shownAll (d :: r)) (by simp [PyData.shownAll])
    rw [Str.length_append, Str.length_append]
    omega
theorem nums_facts {l : List Int} (h : ∀ i ∈ l, 0 ≤ i ∧ i < 10 ^ 10) (n : l.length ≤ 100) : (PyData.tuple (l.map PyData.int)).showable = true ∧ (PyData.tuple (l.map PyData.int)).depth ≤ 60 ∧ (PyData.tuple (l.map PyData.int)).shown.length ≤ sizeLine := by
  have a := showall_nums h
  have b := depthall_nums l
  have c := piled_nums h
  have d := shown_tup_le (l.map PyData.int)
  have mz : 5000 ≤ sizeLine := by decide
  exact ⟨by simp [PyData.showable, a], by simp only [PyData.depth]; omega, by omega⟩
theorem lay_nums : ∀ l : List Int, PyData.canLayAll0 (l.map PyData.int) = true
  | [] => rfl
  | i :: l => by
    have := lay_nums l
    simp [PyData.canLayAll0, PyData.canLay0, this]
theorem shaped_nums (l : List Int) : SeqAt.shaped (.list (l.map PyData.int)) = true := by
  have a := lay_nums l
  have b := depthall_nums l
  unfold SeqAt.shaped
  rw [Bool.and_eq_true, decide_eq_true_eq]
  exact ⟨by simp [PyData.canLay0, a], by simp only [PyData.depth]; omega⟩
theorem eqv_nums (l : List Int) : PyData.eqv (.list (l.map PyData.int)) (.list (l.map PyData.int)) = true :=
  SeqAt.eqv_refl _ (by have a := lay_nums l; simp [PyData.canLay0, a])
theorem dp_nums {K : PySem.W.Frag} {H : Hp} : ∀ l : List Int, DpAll K H (l.map V.int) (l.map PyData.int)
  | [] => .nil
  | i :: l => .cons (.int i) (dp_nums l)
end Gr

set_option Elab.async false
set_option maxRecDepth 100000
set_option maxHeartbeats 4000000
set_option linter.all false
/-! Ours: a dict display of one pair whose key is a tuple. -/
namespace Gr
open PySem PySem.Spec PyProof.Rows L2 GxR
/-- {k: v}, k a tuple of ints and texts; the new dict stands empty while the pair is made -/
def tDispT (tk tv : TE) : TE := fun σ H Q => ∀ p, H p = none → tk σ (upd H p (.dT [])) fun x H1 => tv σ H1 fun y H2 => ∃ b ks, x = .ref b ∧ H2 b = some (.tup (ks.map kV)) ∧ H2 p = some (.dT []) ∧ Q (.ref p) (upd H2 p (.dT [(ks, y)]))
theorem pe_dispT {X : Cx} {k v : Expr} {tk tv : TE} {pos : Pos} (hu : X.A.units < cLine) (hk : PE X k tk) (hv : PE X v tv) : PE X (.Dict [some k] [v] pos) (tDispT tk tv) := by
  refine ⟨fun pins s σ H Q I q => ?_⟩
  have hn := I.hok.fresh (Nat.le_refl s.heap.objs.size)
  have I1 := I.laid (a := s.heap.objs.size) (o := .dT []) (h' := s.heap.push { cls := .type "dict", data := .dict #[] }) (t' := s.toks) (fun _ _ q => Heap.get?_push_of_some _ q) (Nat.le_refl _) (dt_empty s.heap I.big)
  rw [PySem.arm_eval_Dict, PySem.zip_pairTrees [some k] [v] X.env pos rfl rfl, PySem.dictDisplay_pairs _ (by simp [PySem.pairTrees]) (by simp [PySem.pairTrees])]
  refine wpAny_bind (wpAny_standAt (wpAny_bind (PySem.wpAny_subDictH (knd := tupleKind (mixKind X.prog X.w)) hu (by simp [PySem.pairTrees]) ?_)))
  refine PySem.pairTrees_cons_walk (thn (hk.run pins _ σ _ _ I1 (q _ hn)) fun kv s1 ⟨x, H1, I2, rx, q1⟩ => thn (hv.run pins s1 σ H1 _ I2 q1) fun vv s2 ⟨y, H2, I3, ry, b, ks, ex, eb, ed, q2⟩ => PySem.pairTrees_nil_walk ?_)
  subst ex
  cases (show kv = Value.ref b from rx)
  obtain ⟨z, hd, xs, rel, dd⟩ := dt_of I3.hok ed
  cases rel
  refine ⟨[(ks, b, vv)], ⟨rfl, rfl, key_of I3.hok eb, trivial⟩, dd, fun h' tk dd' hs => wpAny_pure ⟨.ref s.heap.objs.size, _, ?_, rfl, q2⟩⟩
  obtain ⟨q, es, ep, hq, h2, h3, h4, _, h5⟩ := dd'
  refine d_write I3 (by rw [ed]; exact True.intro) hs ⟨q, hq⟩ ⟨by show 1 ≤ sizeLine; rw [sizeLine_eq]; decide, hd, _, .cons ⟨rfl, ?_, ry⟩ .nil, q, es, ep, hq, h2, h3, h4, h5⟩
  rw [upd_ne (ne_of eb ed (fun z => nomatch z))]
  exact eb
end Gr

set_option Elab.async false
set_option maxRecDepth 100000
set_option linter.all false
/-! Ours: the repr of lists and tuples of small data: facts. -/
namespace Gr
open PySem PySem.Spec PyProof.Rows L2 GxR
def SmallD (k s : Nat) (d : PyData) : Prop := d.showable = true ∧ d.depth ≤ k ∧ d.shown.length ≤ s
theorem small_none : SmallD 2 11 .none := ⟨rfl, by decide +kernel, by decide +kernel⟩
theorem small_int {i : Int} (h0 : 0 ≤ i) (h1 : i < 10 ^ 10) : SmallD 2 11 (.int i) := by
  have a := showall_nums (l := [i]) (fun j hj => by rw [List.mem_singleton.mp hj]; exact ⟨h0, h1⟩)
  refine ⟨?_, by simp [PyData.depth], shown_num h0 h1⟩
  simpa [PyData.showableAll] using a
theorem showall_of : ∀ {ds : List PyData} {k s : Nat}, (∀ d ∈ ds, SmallD k s d) → PyData.showableAll ds = true
  | [], _, _, _ => rfl
  | d :: ds, k, s, h => by
    have ih := showall_of (ds := ds) fun x hx => h x (List.mem_cons_of_mem _ hx)
    simp [PyData.showableAll, ih, (h d List.mem_cons_self).1]
theorem depthall_of : ∀ {ds : List PyData} {k s : Nat}, (∀ d ∈ ds, SmallD k s d) → PyData.depthAll ds ≤ k + 1
  | [], _, _, _ => by simp [PyData.depthAll]
  | d :: ds, k, s, h => by
    have ih := depthall_of (ds := ds) fun x hx => h x (List.mem_cons_of_mem _ hx)
    have := (h d List.mem_cons_self).2.1
    simp only [PyData.depthAll]
    omega
theorem piled_of : ∀ {ds : List PyData} {k s : Nat}, (∀ d ∈ ds, SmallD k s d) → piled (PyData.shownAll ds) ≤ (s + 2) * ds.length
  | [], _, _, _ => by simp [PyData.shownAll, piled_nil]
  | d :: ds, k, s, h => by
    have ih := piled_of (ds := ds) fun x hx => h x (List.mem_cons_of_mem _ hx)
    have h1 := (h d List.mem_cons_self).2.2
    simp only [PyData.shownAll, piled_cons, List.length_cons, Nat.mul_succ]
    omega
theorem shown_lst_le (ds : List PyData) : (PyData.list ds).shown.length ≤ piled (PyData.shownAll ds) + 3 := by
  rw [PyData.shown_list]
  have e1 : ("[" : Str).length = 1 := by decide +kernel
  have e2 : ("]" : Str).length = 1 := by decide +kernel
  cases ds with
  | nil => decide +kernel
  | cons d r =>
    have h := join_length_add (PyData.shownAll (d :: r)) (by simp [PyData.shownAll])
    rw [Str.length_append, Str.length_append]
    omega
theorem small_tup {ds : List PyData} {k s : Nat} (h : ∀ d ∈ ds, SmallD k s d) : SmallD (k + 2) ((s + 2) * ds.length + 3) (.tuple ds) := by
  have a := showall_of h
  have b := depthall_of h
  have c := piled_of h
  have d := shown_tup_le ds
  exact ⟨by simp [PyData.showable, a], by simp only [PyData.depth]; omega, by omega⟩
theorem small_lst {ds : List PyData} {k s : Nat} (h : ∀ d ∈ ds, SmallD k s d) : SmallD (k + 2) ((s + 2) * ds.length + 3) (.list ds) := by
  have a := showall_of h
  have b := depthall_of h
  have c := piled_of h
  have d := shown_lst_le ds
  exact ⟨by simp [PyData.showable, a], by simp only [PyData.depth]; omega, by omega⟩
theorem SmallD.mono {k s k' s' : Nat} {d : PyData} (h : SmallD k s d) (a : k ≤ k') (b : s ≤ s') : SmallD k' s' d := ⟨h.1, Nat.le_trans h.2.1 a, Nat.le_trans h.2.2 b⟩
theorem SmallD.facts {k s : Nat} {d : PyData} (h : SmallD k s d) (a : k ≤ 60) (b : s ≤ 5000) : d.showable = true ∧ d.depth ≤ 60 ∧ d.shown.length ≤ sizeLine := by
  have mz : 5000 ≤ sizeLine := by decide
  exact ⟨h.1, Nat.le_trans h.2.1 a, Nat.le_trans h.2.2 (by omega)⟩
end Gr

set_option linter.all false
/-! Ours: the mathematics of patterns: a table of truths by rows, by columns; places as bits of a number. -/
namespace PM
/-- one row more: the sign c of the body, star or not; r the string, p the row ahead -/
def nrow (star : Bool) (c : Option Nat) (r : List Nat) (p : Nat → Bool) : Nat → Bool
  | 0 => p 0 && star
  | k + 1 => if star then p (k + 1) || nrow star c r p k else p k && (c == r[k]?)
def isSt (b : List Nat) (i : Nat) : Bool := b[i]? == some 42
/-- the first i signs of b fit the first k of r -/
def F (b r : List Nat) : Nat → Nat → Bool
  | 0 => fun k => k == 0
  | i + 1 => nrow (isSt b i) b[i]? r (F b r i)
theorem F_zero (b r : List Nat) (k : Nat) : F b r 0 k = (k == 0) := rfl
theorem F_succ_zero (b r : List Nat) (i : Nat) : F b r (i + 1) 0 = (F b r i 0 && isSt b i) := rfl
theorem F_succ (b r : List Nat) (i k : Nat) : F b r (i + 1) (k + 1) = if isSt b i then F b r i (k + 1) || F b r (i + 1) k else F b r i k && (b[i]? == r[k]?) := rfl

/-- a body that begins with a sign fits nothing at the empty string -/
theorem F_begin {b : List Nat} (r : List Nat) (h : isSt b 0 = false) : ∀ i, F b r i 0 = (i == 0)
  | 0 => rfl
  | 1 => by rw [F_succ_zero, h]; cases F b r 0 0 <;> rfl
  | i + 2 => by
    rw [F_succ_zero, F_begin r h (i + 1)]
    rfl

/-- only the first k signs of the string matter -/
theorem F_local {b r r' : List Nat} : ∀ (i k : Nat), (∀ j, j < k → r[j]? = r'[j]?) → F b r i k = F b r' i k
  | 0, k, _ => rfl
  | i + 1, 0, h => by rw [F_succ_zero, F_succ_zero, F_local i 0 h]
  | i + 1, k + 1, h => by
    have h' : ∀ j, j < k → r[j]? = r'[j]? := fun j hj => h j (Nat.lt_succ_of_lt hj)
    rw [F_succ, F_succ, F_local i (k + 1) h, F_local (i + 1) k h', F_local i k h', h k (Nat.lt_succ_self k)]
/-- only the first i signs of the body matter -/
theorem F_body {b b' r : List Nat} : ∀ (i k : Nat), (∀ j, j < i → b[j]? = b'[j]?) → F b r i k = F b' r i k
  | 0, k, _ => rfl
  | i + 1, 0, h => by
    rw [F_succ_zero, F_succ_zero, F_body i 0 (fun j hj => h j (Nat.lt_succ_of_lt hj))]
    unfold isSt
    rw [h i (Nat.lt_succ_self i)]
  | i + 1, k + 1, h => by
    have h' : ∀ j, j < i → b[j]? = b'[j]? := fun j hj => h j (Nat.lt_succ_of_lt hj)
    rw [F_succ, F_succ, F_body i (k + 1) h', F_body (i + 1) k h, F_body i k h']
    unfold isSt
    rw [h i (Nat.lt_succ_self i)]
/-- a star at the end takes one sign more -/
theorem F_star {b r : List Nat} {i k : Nat} (h : isSt b i = true) (f : F b r (i + 1) k = true) : F b r (i + 1) (k + 1) = true := by
  rw [F_succ, if_pos h, f, Bool.or_true]
theorem F_stars {b r : List Nat} {i k : Nat} (h : isSt b i = true) (f : F b r (i + 1) k = true) : ∀ n, F b r (i + 1) (k + n) = true
  | 0 => f
  | n + 1 => F_star h (F_stars h f n)
/-- without stars just the string itself is fitted -/
theorem F_plain {b r : List Nat} (h : ∀ i, isSt b i = false) : ∀ i k, i ≤ b.length → k ≤ r.length → (F b r i k = true ↔ b.take i = r.take k)
  | 0, 0, _, _ => by simp [F]
  | 0, k + 1, _, hk => by
    rw [F_zero]
    constructor
    · intro e
      cases e
    · intro e
      have := congrArg List.length e
      rw [List.length_take, List.length_take] at this
      omega
  | i + 1, 0, hi, _ => by
    rw [F_succ_zero, h i, Bool.and_false]
    constructor
    · intro e
      cases e
    · intro e
      have := congrArg List.length e
      rw [List.length_take, List.length_take] at this
      omega
  | i + 1, k + 1, hi, hk => by
    have hi' : i < b.length := hi
    have hk' : k < r.length := hk
    rw [F_succ, h i, if_neg Bool.false_ne_true, Bool.and_eq_true, F_plain h i k (Nat.le_of_lt hi') (Nat.le_of_lt hk'), List.getElem?_eq_getElem hi', List.getElem?_eq_getElem hk',
      beq_iff_eq, Option.some_inj, List.take_succ_eq_append_getElem hi', List.take_succ_eq_append_getElem hk']
    constructor
    · rintro ⟨e1, e2⟩
      rw [e1, e2]
    · intro e
      have el : (b.take i).length = (r.take k).length := by
        have := congrArg List.length e
        rw [List.length_append, List.length_append] at this
        simpa using this
      obtain ⟨e1, e2⟩ := List.append_inj e el
      exact ⟨e1, by simpa using e2⟩

/-! ### numbers as sets of places -/
def bits (f : Nat → Bool) : Nat → Nat
  | 0 => 0
  | n + 1 => bits f n ||| (if f n then 2 ^ n else 0)
theorem testBit_pow (n i : Nat) : (2 ^ n).testBit i = decide (n = i) := Nat.testBit_two_pow ..
theorem bits_test (f : Nat → Bool) : ∀ n i, (bits f n).testBit i = (decide (i < n) && f i)
  | 0, i => by simp [bits]
  | n + 1, i => by
    unfold bits
    rw [Nat.testBit_or, bits_test f n i]
    by_cases hi : i = n
    · subst hi
      cases hf : f i <;> simp [testBit_pow]
    · have h1 : decide (i < n + 1) = decide (i < n) := by
        apply decide_eq_decide.mpr
        omega
      rw [h1]
      cases hf : f n
      · simp
      · have : ¬ n = i := fun e => hi e.symm
        simp [testBit_pow, this]
theorem bits_lt (f : Nat → Bool) (n : Nat) : bits f n < 2 ^ n := by
  induction n with
  | zero => exact Nat.zero_lt_one
  | succ n ih =>
    unfold bits
    refine Nat.or_lt_two_pow (Nat.lt_trans ih (Nat.pow_lt_pow_right (by decide) (Nat.lt_succ_self n))) ?_
    cases f n
    · exact Nat.two_pow_pos _
    · exact Nat.pow_lt_pow_right (by decide) (Nat.lt_succ_self n)
theorem eq_of_test {a b : Nat} (h : ∀ i, a.testBit i = b.testBit i) : a = b := Nat.eq_of_testBit_eq h
theorem lt_of_test {a n : Nat} (h : ∀ i, n ≤ i → a.testBit i = false) : a < 2 ^ n := Nat.lt_pow_two_of_testBit a h

/-- the body's stars; those places kept by any sign; the places that a sign leads on from -/
def starsOf (b : List Nat) (n : Nat) : Nat := bits (isSt b) n
def heldOf (b : List Nat) (n : Nat) : Nat := bits (isSt b) n * 2
def moveOf (b : List Nat) (c : Nat) (n : Nat) : Nat := bits (fun i => !isSt b i && (b[i]? == some c)) n

theorem mul2_test (a i : Nat) : (a * 2).testBit i = (decide (0 < i) && a.testBit (i - 1)) := by
  have := Nat.testBit_mul_two_pow a i 1
  rw [Nat.pow_one] at this
  rw [this]
  rfl
theorem mul2_or (a b : Nat) : (a ||| b) * 2 = a * 2 ||| b * 2 := by
  refine eq_of_test fun i => ?_
  rw [mul2_test, Nat.testBit_or, Nat.testBit_or, mul2_test, mul2_test]
  cases decide (0 < i) <;> simp

/-- one turn of the closing -/
def grow (st s : Nat) : Nat := s ||| (s &&& st) * 2
theorem grow_test (st s i : Nat) : (grow st s).testBit i = (s.testBit i || (decide (0 < i) && (s.testBit (i - 1) && st.testBit (i - 1)))) := by
  unfold grow
  rw [Nat.testBit_or, mul2_test, Nat.testBit_and]
/-- what closing comes to -/
def clo (st s : Nat → Bool) : Nat → Bool
  | 0 => s 0
  | i + 1 => s (i + 1) || (clo st s i && st i)
theorem clo_of {st s c : Nat} {s0 : Nat → Bool} (h0 : ∀ i, s0 i = true → s.testBit i = true) (h1 : ∀ i, s.testBit i = true → clo (st.testBit ·) s0 i = true) (hf : grow st s = s) :
    ∀ i, s.testBit i = clo (st.testBit ·) s0 i
  | 0 => by
    rw [Bool.eq_iff_iff]
    exact ⟨h1 0, fun e => h0 0 e⟩
  | i + 1 => by
    rw [Bool.eq_iff_iff]
    refine ⟨h1 _, fun e => ?_⟩
    unfold clo at e
    rw [Bool.or_eq_true] at e
    rcases e with e | e
    · exact h0 _ e
    · rw [← clo_of (c := c) h0 h1 hf i] at e
      rw [← hf, grow_test]
      simp only [Nat.succ_sub_one, Nat.zero_lt_succ, decide_true, Bool.true_and]
      rw [e, Bool.or_true]
theorem grow_sub {st s : Nat} {s0 : Nat → Bool} (h1 : ∀ i, s.testBit i = true → clo (st.testBit ·) s0 i = true) : ∀ i, (grow st s).testBit i = true → clo (st.testBit ·) s0 i = true := by
  intro i e
  rw [grow_test, Bool.or_eq_true] at e
  rcases e with e | e
  · exact h1 i e
  · cases i with
    | zero => cases e
    | succ i =>
      simp only [Nat.succ_sub_one, Nat.zero_lt_succ, decide_true, Bool.true_and, Bool.and_eq_true] at e
      unfold clo
      rw [h1 i e.1, e.2]
      simp
theorem grow_ge (st s : Nat) : s ≤ grow st s := Nat.left_le_or
theorem grow_keeps {st s : Nat} {i : Nat} (h : s.testBit i = true) : (grow st s).testBit i = true := by
  rw [grow_test, h]
  rfl
theorem grow_lt {st s n : Nat} (hs : s < 2 ^ (n + 1)) (ht : st < 2 ^ n) : grow st s < 2 ^ (n + 1) := by
  unfold grow
  refine Nat.or_lt_two_pow hs ?_
  have h1 : s &&& st < 2 ^ n := Nat.lt_of_le_of_lt Nat.and_le_right ht
  rw [Nat.pow_succ]
  omega

/-- a step: the bits ahead of closing -/
def stepped (b : List Nat) (n s c : Nat) : Nat := (s &&& moveOf b c n) * 2 ||| (s &&& heldOf b n)
theorem stepped_test (b : List Nat) (n s c i : Nat) : (stepped b n s c).testBit i = (decide (0 < i) && ((s.testBit (i - 1) && (moveOf b c n).testBit (i - 1)) || (s.testBit i && (bits (isSt b) n).testBit (i - 1)))) := by
  unfold stepped heldOf
  rw [Nat.testBit_or, mul2_test, Nat.testBit_and, Nat.testBit_and, mul2_test]
  cases decide (0 < i) <;> simp
/-- the places at the first k signs, as a number -/
def Pl (b r : List Nat) (k s : Nat) : Prop := ∀ i, s.testBit i = (decide (i ≤ b.length) && F b r i k)
theorem clo_step {b r : List Nat} {k s c : Nat} (hs : Pl b r k s) (hc : r[k]? = some c) : ∀ i, clo ((starsOf b b.length).testBit ·) ((stepped b b.length s c).testBit ·) i = (decide (i ≤ b.length) && F b r i (k + 1))
  | 0 => by
    unfold clo
    rw [stepped_test, F_zero]
    simp
  | i + 1 => by
    have sti : (starsOf b b.length).testBit i = isSt b i := by
      unfold starsOf
      rw [bits_test]
      by_cases hi : i < b.length
      · simp [hi]
      · unfold isSt
        rw [List.getElem?_eq_none (Nat.le_of_not_lt hi)]
        simp
    unfold clo
    rw [clo_step hs hc i, stepped_test, sti]
    simp only [Nat.succ_sub_one, Nat.zero_lt_succ, decide_true, Bool.true_and]
    rw [hs i, hs (i + 1)]
    unfold moveOf
    rw [bits_test, bits_test]
    by_cases hi : i < b.length
    · have h1 : decide (i ≤ b.length) = true := decide_eq_true (Nat.le_of_lt hi)
      have h2 : decide (i + 1 ≤ b.length) = true := decide_eq_true hi
      have h3 : decide (i < b.length) = true := decide_eq_true hi
      rw [h1, h2, h3, F_succ, hc]
      cases hst : isSt b i
      · simp
      · simp [Bool.or_comm]
    · have h2 : decide (i + 1 ≤ b.length) = false := decide_eq_false (by omega)
      have h3 : decide (i < b.length) = false := decide_eq_false hi
      have h4 : isSt b i = false := by
        unfold isSt
        rw [List.getElem?_eq_none (Nat.le_of_not_lt hi)]
        rfl
      rw [h2, h3, h4]
      simp
end PM

set_option Elab.async false
set_option maxRecDepth 100000
set_option maxHeartbeats 4000000
set_option linter.all false
namespace KP
open PySem PySem.Spec PyProof.Rows L2 Gr GxR
def top (i : Nat) : Stmt := PySem.Challenge.pw_gentlerounds_k17_whole_shares_dealt_out.main.body.getD i (.Pass ⟨0, 0, 0, 0⟩)
abbrev s_opens : Stmt := top 4
abbrev s_next_open : Stmt := top 5
abbrev s_next_ask : Stmt := top 6
abbrev s_soonest_asks : Stmt := top 7
abbrev s_most_between : Stmt := top 8
abbrev s_most_within : Stmt := top 9
abbrev s_is_whole : Stmt := top 17
abbrev s_is_between : Stmt := top 18
abbrev s_is_tuple : Stmt := top 19
abbrev s_check_between : Stmt := top 21
abbrev s_is_limit : Stmt := top 24
abbrev s_are_limits : Stmt := top 25
abbrev s_check_limits : Stmt := top 26
abbrev s_is_part : Stmt := top 30
abbrev s_check_parts : Stmt := top 31
abbrev s_broken_limit : Stmt := top 32
abbrev s_keep : Stmt := top 33
abbrev s_breaking : Stmt := top 34
abbrev s_crowded_row : Stmt := top 35
abbrev s_dealt : Stmt := top 36
abbrev s_share_of : Stmt := top 37
abbrev s_most_crawlers : Stmt := top 38
abbrev s_l_well : Stmt := top 40
abbrev s_l_pick : Stmt := top 41
abbrev s_l_one : Stmt := top 42
abbrev s_l_open : Stmt := top 43
abbrev s_l_wrong_at : Stmt := top 44
abbrev s_l_soonest : Stmt := top 45
abbrev s_l_some_limits : Stmt := top 46
abbrev s_l_dealt : Stmt := top 47
abbrev s_l_due : Stmt := top 48
abbrev s_l_below : Stmt := top 49
abbrev s_l_close : Stmt := top 50
abbrev s_l_dealt_right : Stmt := top 51
abbrev s_l_greatest_right : Stmt := top 52
abbrev s_law : Stmt := top 53
/-- a def whose code object stands at c -/
structure FunC (K : PySem.W.Frag) (x ql : Str) (st : Stmt) (f : Addr) (fd : FuncData) (c : Addr) : Prop where
  ex : ∃ (oc : Value) (od : Option Addr) (kV doc pm : Value) (an : Option Addr) (ct : Value) (osl : Array (Option Value)),
    fd = PySem.W.fnOf x ql (defArgs st) (defBody st) (defScope st) .none kV doc pm an (.ref c) ct ∧ K.lookup f = some ⟨oc, od, .func fd, osl⟩ ∧ PySem.W.codeIn K (.ref c) ql = true
  kp : PySem.W.keepIn K (.ref f) = true
theorem FunC.fun {K : PySem.W.Frag} {x ql : Str} {st : Stmt} {f : Addr} {fd : FuncData} {c : Addr} (F : FunC K x ql st f fd c) : Fun K x ql st f fd := by
  obtain ⟨⟨oc, od, kV, doc, pm, an, ct, osl, e1, e2, e3⟩, kp⟩ := F
  exact ⟨⟨oc, od, kV, doc, pm, an, .ref c, ct, osl, e1, e2, e3⟩, kp⟩
/-- such a def by its body; its code object is known there -/
theorem FunC.ok {P : Program} {w : World} {K : PySem.W.Frag} {mg : Str → Option Value} {base : Heap} {x ql : Str} {st : Stmt} {f c : Addr} {fd : FuncData} {N ps : List Str} {k : Nat} {sp : Sp} (F : FunC K x ql st f fd c) (S : FnScope N ps (defScope st)) (len : ∀ vs H Q E, sp vs H Q E → vs.length = ps.length)
    (hb : ∀ (A : Around) (outer : List Env) (s : Shared) (H : Hp) (vs : List V) (Q : VK) (E : XK), Room k (A.deeper (envOfC ql (defScope st) s.heap.objs.size f (.ref c))) → sp vs H Q E →
      ∃ t, PSs (cxOf CX0 P w K mg base N ql (defScope st) f (.ref c) A outer s H E).nox (defBody st) t ∧ t { nx := fun _ H' => Q .non H', rt := Q } (start N vs) H) : FnOk P w K mg base CX0 (k + 1) f fd ps sp := by
  obtain ⟨oc, od, kV, doc, pm, an, ct, osl, rfl, lk, hcd⟩ := F.ex
  refine fn_of lk hcd S len fun A outer s H vs Q E hr hsp => ?_
  obtain ⟨t, h, q⟩ := hb A outer s H vs Q E hr hsp
  exact ⟨t, h.nox, q⟩
structure D (K : PySem.W.Frag) (mg : Str → Option Value) where
  f_opens : Addr
  d_opens : FuncData
  U_opens : Fun K "opens" "opens" s_opens f_opens d_opens
  g_opens : mg "opens" = some (.ref f_opens)
  f_next_open : Addr
  d_next_open : FuncData
  U_next_open : Fun K "next_open" "next_open" s_next_open f_next_open d_next_open
  g_next_open : mg "next_open" = some (.ref f_next_open)
  f_next_ask : Addr
  d_next_ask : FuncData
  U_next_ask : Fun K "next_ask" "next_ask" s_next_ask f_next_ask d_next_ask
  g_next_ask : mg "next_ask" = some (.ref f_next_ask)
  f_soonest_asks : Addr
  d_soonest_asks : FuncData
  U_soonest_asks : Fun K "soonest_asks" "soonest_asks" s_soonest_asks f_soonest_asks d_soonest_asks
  g_soonest_asks : mg "soonest_asks" = some (.ref f_soonest_asks)
  f_most_between : Addr
  d_most_between : FuncData
  U_most_between : Fun K "most_between" "most_between" s_most_between f_most_between d_most_between
  g_most_between : mg "most_between" = some (.ref f_most_between)
  f_most_within : Addr
  d_most_within : FuncData
  U_most_within : Fun K "most_within" "most_within" s_most_within f_most_within d_most_within
  g_most_within : mg "most_within" = some (.ref f_most_within)
  f_is_whole : Addr
  d_is_whole : FuncData
  U_is_whole : Fun K "is_whole" "is_whole" s_is_whole f_is_whole d_is_whole
  g_is_whole : mg "is_whole" = some (.ref f_is_whole)
  f_is_between : Addr
  d_is_between : FuncData
  U_is_between : Fun K "is_between" "is_between" s_is_between f_is_between d_is_between
  g_is_between : mg "is_between" = some (.ref f_is_between)
  f_is_tuple : Addr
  d_is_tuple : FuncData
  U_is_tuple : Fun K "is_tuple" "is_tuple" s_is_tuple f_is_tuple d_is_tuple
  g_is_tuple : mg "is_tuple" = some (.ref f_is_tuple)
  f_check_between : Addr
  d_check_between : FuncData
  U_check_between : Fun K "check_between" "check_between" s_check_between f_check_between d_check_between
  g_check_between : mg "check_between" = some (.ref f_check_between)
  f_is_limit : Addr
  d_is_limit : FuncData
  U_is_limit : Fun K "is_limit" "is_limit" s_is_limit f_is_limit d_is_limit
  g_is_limit : mg "is_limit" = some (.ref f_is_limit)
  f_are_limits : Addr
  d_are_limits : FuncData
  c_are_limits : Addr
  P_are_limits : Addr
  V_are_limits : FunC K "are_limits" "are_limits" s_are_limits f_are_limits d_are_limits c_are_limits
  g_are_limits : mg "are_limits" = some (.ref f_are_limits)
  f_check_limits : Addr
  d_check_limits : FuncData
  U_check_limits : Fun K "check_limits" "check_limits" s_check_limits f_check_limits d_check_limits
  g_check_limits : mg "check_limits" = some (.ref f_check_limits)
  f_is_part : Addr
  d_is_part : FuncData
  U_is_part : Fun K "is_part" "is_part" s_is_part f_is_part d_is_part
  g_is_part : mg "is_part" = some (.ref f_is_part)
  f_check_parts : Addr
  d_check_parts : FuncData
  U_check_parts : Fun K "check_parts" "check_parts" s_check_parts f_check_parts d_check_parts
  g_check_parts : mg "check_parts" = some (.ref f_check_parts)
  f_broken_limit : Addr
  d_broken_limit : FuncData
  U_broken_limit : Fun K "broken_limit" "broken_limit" s_broken_limit f_broken_limit d_broken_limit
  g_broken_limit : mg "broken_limit" = some (.ref f_broken_limit)
  f_keep : Addr
  d_keep : FuncData
  U_keep : Fun K "keep" "keep" s_keep f_keep d_keep
  g_keep : mg "keep" = some (.ref f_keep)
  f_breaking : Addr
  d_breaking : FuncData
  U_breaking : Fun K "breaking" "breaking" s_breaking f_breaking d_breaking
  g_breaking : mg "breaking" = some (.ref f_breaking)
  f_crowded_row : Addr
  d_crowded_row : FuncData
  U_crowded_row : Fun K "crowded_row" "crowded_row" s_crowded_row f_crowded_row d_crowded_row
  g_crowded_row : mg "crowded_row" = some (.ref f_crowded_row)
  f_dealt : Addr
  d_dealt : FuncData
  c_dealt : Addr
  P_dealt : Addr
  V_dealt : FunC K "dealt" "dealt" s_dealt f_dealt d_dealt c_dealt
  g_dealt : mg "dealt" = some (.ref f_dealt)
  f_share_of : Addr
  d_share_of : FuncData
  U_share_of : Fun K "share_of" "share_of" s_share_of f_share_of d_share_of
  g_share_of : mg "share_of" = some (.ref f_share_of)
  f_most_crawlers : Addr
  d_most_crawlers : FuncData
  U_most_crawlers : Fun K "most_crawlers" "most_crawlers" s_most_crawlers f_most_crawlers d_most_crawlers
  g_most_crawlers : mg "most_crawlers" = some (.ref f_most_crawlers)
  f_l_well : Addr
  d_l_well : FuncData
  U_l_well : Fun K "_law_well" "_law_well" s_l_well f_l_well d_l_well
  g_l_well : mg "_law_well" = some (.ref f_l_well)
  f_l_pick : Addr
  d_l_pick : FuncData
  U_l_pick : Fun K "_law_pick" "_law_pick" s_l_pick f_l_pick d_l_pick
  g_l_pick : mg "_law_pick" = some (.ref f_l_pick)
  f_l_one : Addr
  d_l_one : FuncData
  U_l_one : Fun K "_law_one" "_law_one" s_l_one f_l_one d_l_one
  g_l_one : mg "_law_one" = some (.ref f_l_one)
  f_l_open : Addr
  d_l_open : FuncData
  U_l_open : Fun K "_law_open" "_law_open" s_l_open f_l_open d_l_open
  g_l_open : mg "_law_open" = some (.ref f_l_open)
  f_l_wrong_at : Addr
  d_l_wrong_at : FuncData
  U_l_wrong_at : Fun K "_law_wrong_at" "_law_wrong_at" s_l_wrong_at f_l_wrong_at d_l_wrong_at
  g_l_wrong_at : mg "_law_wrong_at" = some (.ref f_l_wrong_at)
  f_l_soonest : Addr
  d_l_soonest : FuncData
  U_l_soonest : Fun K "_law_soonest" "_law_soonest" s_l_soonest f_l_soonest d_l_soonest
  g_l_soonest : mg "_law_soonest" = some (.ref f_l_soonest)
  f_l_some_limits : Addr
  d_l_some_limits : FuncData
  U_l_some_limits : Fun K "_law_some_limits" "_law_some_limits" s_l_some_limits f_l_some_limits d_l_some_limits
  g_l_some_limits : mg "_law_some_limits" = some (.ref f_l_some_limits)
  f_l_dealt : Addr
  d_l_dealt : FuncData
  U_l_dealt : Fun K "_law_dealt" "_law_dealt" s_l_dealt f_l_dealt d_l_dealt
  g_l_dealt : mg "_law_dealt" = some (.ref f_l_dealt)
  f_l_due : Addr
  d_l_due : FuncData
  U_l_due : Fun K "_law_due" "_law_due" s_l_due f_l_due d_l_due
  g_l_due : mg "_law_due" = some (.ref f_l_due)
  f_l_below : Addr
  d_l_below : FuncData
  U_l_below : Fun K "_law_below" "_law_below" s_l_below f_l_below d_l_below
  g_l_below : mg "_law_below" = some (.ref f_l_below)
  f_l_close : Addr
  d_l_close : FuncData
  U_l_close : Fun K "_law_close" "_law_close" s_l_close f_l_close d_l_close
  g_l_close : mg "_law_close" = some (.ref f_l_close)
  f_l_dealt_right : Addr
  d_l_dealt_right : FuncData
  U_l_dealt_right : Fun K "_law_dealt_right" "_law_dealt_right" s_l_dealt_right f_l_dealt_right d_l_dealt_right
  g_l_dealt_right : mg "_law_dealt_right" = some (.ref f_l_dealt_right)
  f_l_greatest_right : Addr
  d_l_greatest_right : FuncData
  U_l_greatest_right : Fun K "_law_greatest_right" "_law_greatest_right" s_l_greatest_right f_l_greatest_right d_l_greatest_right
  g_l_greatest_right : mg "_law_greatest_right" = some (.ref f_l_greatest_right)
  f_law : Addr
  d_law : FuncData
  U_law : Fun K "law" "law" s_law f_law d_law
  g_law : mg "law" = some (.ref f_law)
  a_ALWAYS : Addr
  g_ALWAYS : mg "ALWAYS" = some (.ref a_ALWAYS)
  k_ALWAYS : ∃ (o : Obj) (its : Array Value) (n : Nat), K.lookup a_ALWAYS = some o ∧ o.cls = .type "tuple" ∧ o.data = .seq its n ∧ its.size ≤ sizeLine ∧ Vals [V.int 1] its.toList
  t_MOST_ASKS : Tok
  g_MOST_ASKS : mg "MOST_ASKS" = some (.int 6 t_MOST_ASKS)
  t_WIDEST : Tok
  g_WIDEST : mg "WIDEST" = some (.int 12 t_WIDEST)
  t_MOST_PAIRS : Tok
  g_MOST_PAIRS : mg "MOST_PAIRS" = some (.int 4 t_MOST_PAIRS)
  t_MOST_PARTS : Tok
  g_MOST_PARTS : mg "MOST_PARTS" = some (.int 6 t_MOST_PARTS)
  t_LATEST : Tok
  g_LATEST : mg "LATEST" = some (.int 24 t_LATEST)
  abs : mg "abs" = none
  all : mg "all" = none
  any : mg "any" = none
  bool : mg "bool" = none
  divmod : mg "divmod" = none
  enumerate : mg "enumerate" = none
  int : mg "int" = none
  isinstance : mg "isinstance" = none
  len : mg "len" = none
  list : mg "list" = none
  max : mg "max" = none
  min : mg "min" = none
  range : mg "range" = none
  repr : mg "repr" = none
  sorted : mg "sorted" = none
  sum : mg "sum" = none
  tuple : mg "tuple" = none
namespace D
variable {K : PySem.W.Frag} {mg : Str → Option Value} (T : D K mg)
theorem b_opens : Binds K T.d_opens ["hours", "moment"] [] := T.U_opens.binds fun _ _ _ _ _ _ us hl => match us, hl with | [_, _], _ => rfl
theorem b_next_open : Binds K T.d_next_open ["hours", "moment"] [] := T.U_next_open.binds fun _ _ _ _ _ _ us hl => match us, hl with | [_, _], _ => rfl
theorem b_next_ask : Binds K T.d_next_ask ["rules", "asks", "since"] [] := T.U_next_ask.binds fun _ _ _ _ _ _ us hl => match us, hl with | [_, _, _], _ => rfl
theorem b_soonest_asks : Binds K T.d_soonest_asks ["rules", "asks", "many", "since"] [] := T.U_soonest_asks.binds fun _ _ _ _ _ _ us hl => match us, hl with | [_, _, _, _], _ => rfl
theorem b_most_between : Binds K T.d_most_between ["rules", "start", "end"] [] := T.U_most_between.binds fun _ _ _ _ _ _ us hl => match us, hl with | [_, _, _], _ => rfl
theorem b_most_within : Binds K T.d_most_within ["limits", "moments"] [] := T.U_most_within.binds fun _ _ _ _ _ _ us hl => match us, hl with | [_, _], _ => rfl
theorem b_is_whole : Binds K T.d_is_whole ["value"] [] := T.U_is_whole.binds fun _ _ _ _ _ _ us hl => match us, hl with | [_], _ => rfl
theorem b_is_between : Binds K T.d_is_between ["value", "low", "high"] [] := T.U_is_between.binds fun _ _ _ _ _ _ us hl => match us, hl with | [_, _, _], _ => rfl
theorem b_is_tuple : Binds K T.d_is_tuple ["value", "low", "high"] [] := T.U_is_tuple.binds fun _ _ _ _ _ _ us hl => match us, hl with | [_, _, _], _ => rfl
theorem b_check_between : Binds K T.d_check_between ["given", "low", "high"] [] := T.U_check_between.binds fun _ _ _ _ _ _ us hl => match us, hl with | [_, _, _], _ => rfl
theorem b_is_limit : Binds K T.d_is_limit ["value"] [] := T.U_is_limit.binds fun _ _ _ _ _ _ us hl => match us, hl with | [_], _ => rfl
theorem U_are_limits : Fun K "are_limits" "are_limits" s_are_limits T.f_are_limits T.d_are_limits := T.V_are_limits.fun
theorem b_are_limits : Binds K T.d_are_limits ["value"] [] := T.U_are_limits.binds fun _ _ _ _ _ _ us hl => match us, hl with | [_], _ => rfl
theorem b_check_limits : Binds K T.d_check_limits ["given"] [] := T.U_check_limits.binds fun _ _ _ _ _ _ us hl => match us, hl with | [_], _ => rfl
theorem b_is_part : Binds K T.d_is_part ["value"] [] := T.U_is_part.binds fun _ _ _ _ _ _ us hl => match us, hl with | [_], _ => rfl
theorem b_check_parts : Binds K T.d_check_parts ["given"] [] := T.U_check_parts.binds fun _ _ _ _ _ _ us hl => match us, hl with | [_], _ => rfl
theorem b_broken_limit : Binds K T.d_broken_limit ["parts", "shared"] [] := T.U_broken_limit.binds fun _ _ _ _ _ _ us hl => match us, hl with | [_, _], _ => rfl
theorem b_keep : Binds K T.d_keep ["parts", "shared"] [] := T.U_keep.binds fun _ _ _ _ _ _ us hl => match us, hl with | [_, _], _ => rfl
theorem b_breaking : Binds K T.d_breaking ["parts", "shared"] [] := T.U_breaking.binds fun _ _ _ _ _ _ us hl => match us, hl with | [_, _], _ => rfl
theorem b_crowded_row : Binds K T.d_crowded_row ["part", "meeting", "wide", "many"] [] := T.U_crowded_row.binds fun _ _ _ _ _ _ us hl => match us, hl with | [_, _, _, _], _ => rfl
theorem U_dealt : Fun K "dealt" "dealt" s_dealt T.f_dealt T.d_dealt := T.V_dealt.fun
theorem b_dealt : Binds K T.d_dealt ["shared", "many", "late"] [] := T.U_dealt.binds fun _ _ _ _ _ _ us hl => match us, hl with | [_, _, _], _ => rfl
theorem b_share_of : Binds K T.d_share_of ["shared", "many", "late", "crawler"] [] := T.U_share_of.binds fun _ _ _ _ _ _ us hl => match us, hl with | [_, _, _, _], _ => rfl
theorem b_most_crawlers : Binds K T.d_most_crawlers ["limits", "late", "shared"] [] := T.U_most_crawlers.binds fun _ _ _ _ _ _ us hl => match us, hl with | [_, _, _], _ => rfl
theorem b_l_well : Binds K T.d_l_well ["_law_script", "_law_turn"] [] := T.U_l_well.binds fun _ _ _ _ _ _ us hl => match us, hl with | [_, _], _ => rfl
theorem b_l_pick : Binds K T.d_l_pick ["_law_well_here", "_law_top"] [] := T.U_l_pick.binds fun _ _ _ _ _ _ us hl => match us, hl with | [_, _], _ => rfl
theorem b_l_one : Binds K T.d_l_one ["_law_well_here", "_law_some"] [] := T.U_l_one.binds fun _ _ _ _ _ _ us hl => match us, hl with | [_, _], _ => rfl
theorem b_l_open : Binds K T.d_l_open ["_law_clock", "_law_time"] [] := T.U_l_open.binds fun _ _ _ _ _ _ us hl => match us, hl with | [_, _], _ => rfl
theorem b_l_wrong_at : Binds K T.d_l_wrong_at ["_law_pairs", "_law_clock", "_law_row"] [] := T.U_l_wrong_at.binds fun _ _ _ _ _ _ us hl => match us, hl with | [_, _, _], _ => rfl
theorem b_l_soonest : Binds K T.d_l_soonest ["_law_pairs", "_law_clock", "_law_row", "_law_number", "_law_start"] [] := T.U_l_soonest.binds fun _ _ _ _ _ _ us hl => match us, hl with | [_, _, _, _, _], _ => rfl
theorem b_l_some_limits : Binds K T.d_l_some_limits ["_law_well_here", "_law_top", "_law_width"] [] := T.U_l_some_limits.binds fun _ _ _ _ _ _ us hl => match us, hl with | [_, _, _], _ => rfl
theorem b_l_dealt : Binds K T.d_l_dealt ["_law_shares", "_law_number", "_law_delay"] [] := T.U_l_dealt.binds fun _ _ _ _ _ _ us hl => match us, hl with | [_, _, _], _ => rfl
theorem b_l_due : Binds K T.d_l_due ["_law_shares", "_law_number", "_law_delay"] [] := T.U_l_due.binds fun _ _ _ _ _ _ us hl => match us, hl with | [_, _, _], _ => rfl
theorem b_l_below : Binds K T.d_l_below ["_law_pairs", "_law_wide"] [] := T.U_l_below.binds fun _ _ _ _ _ _ us hl => match us, hl with | [_, _], _ => rfl
theorem b_l_close : Binds K T.d_l_close ["_law_each", "_law_delay", "_law_wide"] [] := T.U_l_close.binds fun _ _ _ _ _ _ us hl => match us, hl with | [_, _, _], _ => rfl
theorem b_l_dealt_right : Binds K T.d_l_dealt_right ["_law_well_here"] [] := T.U_l_dealt_right.binds fun _ _ _ _ _ _ us hl => match us, hl with | [_], _ => rfl
theorem b_l_greatest_right : Binds K T.d_l_greatest_right ["_law_well_here"] [] := T.U_l_greatest_right.binds fun _ _ _ _ _ _ us hl => match us, hl with | [_], _ => rfl
theorem b_law : Binds K T.d_law ["_law_script"] [] := T.U_law.binds fun _ _ _ _ _ _ us hl => match us, hl with | [_], _ => rfl
end D
end KP

set_option Elab.async false
set_option maxRecDepth 100000
set_option maxHeartbeats 4000000
set_option linter.all false
/-! Ours: asks that keep apart. -/
namespace KP
open PySem PySem.Spec PyProof.Rows L2 Gr GxR
def inD (q : Int × Int) : PyData × PyData := (.int q.1, .int q.2)
/-- the look at one pair: fewer asks than it counts, or the one so many back is far enough -/
def apI (ns : List Int) (t : Int) (q : Int × Int) : Bool := decide (((ns.length : Nat) : Int) < q.1) || (match atI ns (-q.1) with
  | some x => decide (q.2 ≤ t - x)
  | none => false)
def numsD : List PyData → List Int
  | [] => []
  | .int n :: l => n :: numsD l
  | _ :: l => 0 :: numsD l
theorem nums_ints : ∀ ns : List Int, numsD (ns.map PyData.int) = ns
  | [] => rfl
  | n :: l => congrArg (n :: ·) (nums_ints l)
def apartB : List PyData → PyData × PyData → Bool
  | [.tuple as, .int t], (.int mo, .int wi) => apI (numsD as) t (mo, wi)
  | _, _ => false
def domA (fd : List PyData) (q : PyData × PyData) : Prop := ∃ (ns : List Int) (t : Int) (p : Int × Int), fd = [.tuple (ns.map PyData.int), .int t] ∧ q = inD p ∧ 1 ≤ p.1
def spApart (L : List Addr) : Sp := fun vs H Q _ => ∃ (lv av : V) (t : Int) (ps : List (Int × Int)) (ns : List Int), vs = [lv, av, .int t] ∧ Od H lv (.tuple ((ps.map inD).map tw)) ∧ (∀ p ∈ ps, 1 ≤ p.1) ∧ Od H av (.tuple (ns.map PyData.int)) ∧ Tb L H ∧ ∀ H', UpL L H H' → Q (.bl (ps.all (apI ns t))) H'
section
variable {P : Program} {w : World} {K : PySem.W.Frag} {mg : Str → Option Value} {base : Heap}
theorem atI_map {ns : List Int} {i x : Int} (h : atI ns i = some x) : atI (ns.map PyData.int) i = some (.int x) := by
  unfold atI at h ⊢
  rw [List.length_map]
  cases e : ixN ns.length i with
  | none => rw [e] at h; cases h
  | some j =>
    rw [e] at h
    have h : ns[j]? = some x := h
    show (ns.map PyData.int)[j]? = _
    rw [List.getElem?_map, h]
    rfl
theorem atI_some {ns : List Int} {m : Int} (h1 : 1 ≤ m) (h2 : ¬ ((ns.length : Nat) : Int) < m) : ∃ x, atI ns (-m) = some x := by
  unfold atI ixN
  rw [if_neg (by omega), if_pos (by omega)]
  have hj : (-m + ((ns.length : Nat) : Int)).toNat < ns.length := by omega
  exact ⟨ns[(-m + ((ns.length : Nat) : Int)).toNat], List.getElem?_eq_getElem hj⟩
end
end KP

set_option Elab.async false
set_option maxRecDepth 100000
set_option maxHeartbeats 4000000
set_option linter.all false
/-! Ours: quiet defs: whole numbers, bounds, rows, pairs of limits. -/
namespace KP
open PySem PySem.Spec PyProof.Rows L2 Gr GxR
def limD : PyData → Bool
  | .tuple [a, b] => betwD a 1 6 && betwD b 1 12
  | _ => false
theorem QF.mono {P : Program} {w : World} {K : PySem.W.Frag} {mg : Str → Option Value} {base : Heap} {j k : Nat} {f : Addr} {fd : FuncData} {ps : List Str} {pre : List PyData → PyData → Prop} (F : QF P w K mg base j f fd ps pre) (h : j ≤ k) : QF P w K mg base k f fd ps pre :=
  ⟨F.len, fun B z args us ds d hr => F.run B z args us ds d (hr.mono h)⟩
section
variable {P : Program} {w : World} {K : PySem.W.Frag} {mg : Str → Option Value} {base : Heap}
theorem sc_whole : FnScope ["value"] ["value"] (defScope s_is_whole) := ⟨rfl, rfl, rfl, by decide +kernel, rfl, by decide +kernel, by decide +kernel⟩
theorem qf_whole (M : Mod K mg base) (T : D K mg) : QF P w K mg base 1 T.f_is_whole T.d_is_whole ["value"] (fun ds d => ∃ x, ds = [x] ∧ d = .bool (wholeD x)) := by
  refine qf_of M T.U_is_whole sc_whole (by decide +kernel) (by with_unfolding_all rfl) (fun ds d h => ?_) (fun env m h0 us ds d hsc C hm hv h => ?_)
  · obtain ⟨x, rfl, _⟩ := h
    rfl
  · obtain ⟨x, rfl, rfl⟩ := h
    match us, hv with
    | [u], .cons r .nil =>
      have n0 := hm 0 "value" u rfl rfl
      have e : (x.isInt && !x.isBool) = wholeD x := by cases x <;> rfl
      rw [← e]
      exact qe_and (qe_isi C (qe_name C (by rw [hsc]; decide +kernel) n0 r) (by rw [hsc]; decide +kernel) T.isinstance (by rw [hsc]; decide +kernel) T.int (by decide +kernel) (by decide) (by decide) (fun r h => PySem.W.isinstance_int_data r h))
        (fun _ => qe_one (qe_not (qe_isi C (qe_name C (by rw [hsc]; decide +kernel) n0 r) (by rw [hsc]; decide +kernel) T.isinstance (by rw [hsc]; decide +kernel) T.bool (by decide +kernel) (by decide) (by decide) (fun r h => PySem.W.isinstance_bool_data r h))))
theorem sc_betw : FnScope ["value", "low", "high"] ["value", "low", "high"] (defScope s_is_between) := ⟨rfl, rfl, rfl, by decide +kernel, rfl, by decide +kernel, by decide +kernel⟩
theorem qf_betw (M : Mod K mg base) (T : D K mg) : QF P w K mg base 2 T.f_is_between T.d_is_between ["value", "low", "high"] (fun ds d => ∃ x lo hi, ds = [x, .int lo, .int hi] ∧ d = .bool (betwD x lo hi)) := by
  refine qf_of M T.U_is_between sc_betw (by decide +kernel) (by with_unfolding_all rfl) (fun ds d h => ?_) (fun env m h0 us ds d hsc C hm hv h => ?_)
  · obtain ⟨x, lo, hi, rfl, _⟩ := h
    rfl
  · obtain ⟨x, lo, hi, rfl, rfl⟩ := h
    match us, hv with
    | [u, a, b], .cons r (.cons ra (.cons rb .nil)) =>
      have n0 := hm 0 "value" u rfl rfl
      have n1 := hm 1 "low" a rfl rfl
      have n2 := hm 2 "high" b rfl rfl
      have e : (wholeD x && betwD x lo hi) = betwD x lo hi := by cases x <;> rfl
      rw [← e]
      refine qe_and (qe_call C (qf_whole M T) (by rw [hsc]; decide +kernel) T.g_is_whole T.U_is_whole.kp T.b_is_whole (qes_cons (qe_name C (by rw [hsc]; decide +kernel) n0 r) qes_nil) ⟨x, rfl, rfl⟩) (fun hw => qe_one ?_)
      cases x with
      | int n => exact qe_chain (qe_name C (by rw [hsc]; decide +kernel) n1 ra) (qe_name C (by rw [hsc]; decide +kernel) n0 r) (qe_name C (by rw [hsc]; decide +kernel) n2 rb) (f := fun i j => decide (i ≤ j)) (g := fun i j => decide (i ≤ j)) (fun q => le_int q) (fun q => le_int q)
      | _ => cases hw
theorem sc_row : FnScope ["value", "low", "high"] ["value", "low", "high"] (defScope s_is_tuple) := ⟨rfl, rfl, rfl, by decide +kernel, rfl, by decide +kernel, by decide +kernel⟩
theorem qf_row (M : Mod K mg base) (T : D K mg) : QF P w K mg base 1 T.f_is_tuple T.d_is_tuple ["value", "low", "high"] (fun ds d => ∃ x lo hi, ds = [x, .int lo, .int hi] ∧ szD x ∧ d = .bool (rowD x lo hi)) := by
  refine qf_of M T.U_is_tuple sc_row (by decide +kernel) (by with_unfolding_all rfl) (fun ds d h => ?_) (fun env m h0 us ds d hsc C hm hv h => ?_)
  · obtain ⟨x, lo, hi, rfl, _⟩ := h
    rfl
  · obtain ⟨x, lo, hi, rfl, sz, rfl⟩ := h
    match us, hv with
    | [u, a, b], .cons r (.cons ra (.cons rb .nil)) =>
      have n0 := hm 0 "value" u rfl rfl
      have n1 := hm 1 "low" a rfl rfl
      have n2 := hm 2 "high" b rfl rfl
      have e : (x.isTuple && rowD x lo hi) = rowD x lo hi := by cases x <;> rfl
      rw [← e]
      refine qe_and (qe_isi C (qe_name C (by rw [hsc]; decide +kernel) n0 r) (by rw [hsc]; decide +kernel) T.isinstance (by rw [hsc]; decide +kernel) T.tuple (by decide +kernel) (by decide) (by decide) (fun r h => PySem.W.isinstance_tuple_data r h)) (fun hw => qe_one ?_)
      cases x with
      | tuple es => exact qe_chain (qe_name C (by rw [hsc]; decide +kernel) n1 ra) (qe_len C (qe_name C (by rw [hsc]; decide +kernel) n0 r) (by rw [hsc]; decide +kernel) T.len sz) (qe_name C (by rw [hsc]; decide +kernel) n2 rb) (f := fun i j => decide (i ≤ j)) (g := fun i j => decide (i ≤ j)) (fun q => le_int q) (fun q => le_int q)
      | _ => cases hw
theorem lim_row (x : PyData) : (rowD x 2 2 && limD x) = limD x := by
  cases x with
  | tuple l =>
    match l with
    | [] => rfl
    | [_] => rfl
    | [a, b] => show (true && _) = _; rfl
    | _ :: _ :: _ :: _ => show (_ && false) = false; rw [Bool.and_false]
  | _ => rfl
theorem row2 {x : PyData} (h : rowD x 2 2 = true) : ∃ a b, x = .tuple [a, b] := by
  cases x with
  | tuple l =>
    have h : (decide (2 ≤ ((l.length : Nat) : Int)) && decide (((l.length : Nat) : Int) ≤ 2)) = true := h
    simp only [Bool.and_eq_true, decide_eq_true_eq] at h
    match l, h with
    | [], h => simp at h
    | [_], h => simp at h
    | [a, b], _ => exact ⟨a, b, rfl⟩
    | _ :: _ :: _ :: _, h => simp at h; omega
  | _ => cases h
theorem sc_limit : FnScope ["value"] ["value"] (defScope s_is_limit) := ⟨rfl, rfl, rfl, by decide +kernel, rfl, by decide +kernel, by decide +kernel⟩
theorem qf_limit (M : Mod K mg base) (T : D K mg) : QF P w K mg base 3 T.f_is_limit T.d_is_limit ["value"] (fun ds d => ∃ x, ds = [x] ∧ szD x ∧ d = .bool (limD x)) := by
  refine qf_of M T.U_is_limit sc_limit (by decide +kernel) (by with_unfolding_all rfl) (fun ds d h => ?_) (fun env m h0 us ds d hsc C hm hv h => ?_)
  · obtain ⟨x, rfl, _⟩ := h
    rfl
  · obtain ⟨x, rfl, sz, rfl⟩ := h
    match us, hv with
    | [u], .cons r .nil =>
      have n0 := hm 0 "value" u rfl rfl
      have mz : 5000 ≤ sizeLine := by decide
      rw [← lim_row x]
      refine qe_and (qe_call C (QF.mono (qf_row M T) (by decide)) (by rw [hsc]; decide +kernel) T.g_is_tuple T.U_is_tuple.kp T.b_is_tuple (qes_cons (qe_name C (by rw [hsc]; decide +kernel) n0 r) (qes_cons qe_int (qes_cons qe_int qes_nil))) ⟨x, _, _, rfl, sz, rfl⟩) (fun hw => ?_)
      obtain ⟨a, b, rfl⟩ := row2 hw
      exact qe_and (qe_call C (qf_betw M T) (by rw [hsc]; decide +kernel) T.g_is_between T.U_is_between.kp T.b_is_between (qes_cons (qe_ix (ds := [a, b]) (i := 0) (qe_name C (by rw [hsc]; decide +kernel) n0 r) rfl (by show 2 ≤ sizeLine; omega)) (qes_cons qe_int (qes_cons (qe_gint C (by rw [hsc]; decide +kernel) T.g_MOST_ASKS) qes_nil))) ⟨a, _, _, rfl, rfl⟩)
        (fun _ => qe_one (qe_call C (qf_betw M T) (by rw [hsc]; decide +kernel) T.g_is_between T.U_is_between.kp T.b_is_between (qes_cons (qe_ix (ds := [a, b]) (i := 1) (qe_name C (by rw [hsc]; decide +kernel) n0 r) rfl (by show 2 ≤ sizeLine; omega)) (qes_cons qe_int (qes_cons (qe_gint C (by rw [hsc]; decide +kernel) T.g_WIDEST) qes_nil))) ⟨b, _, _, rfl, rfl⟩))
end
end KP

set_option Elab.async false
set_option maxRecDepth 100000
set_option maxHeartbeats 4000000
set_option linter.all false
/-! Ours: limits, hours, rules of values of any kind. -/
namespace KP
open PySem PySem.Spec PyProof.Rows L2 Gr GxR
theorem gens_mk {env : Env} {scope : Scope} {x : Str} (h1 : scope.kind = .function) (h2 : scope.isCoroutine = false) (h3 : ∀ y ∈ scope.names, y.2 ≠ .cell) (h4 : scope.names.lookup (".0" : Str) = some NameKind.local) (h5 : scope.names.lookup x = some .local)
    (h6 : ∀ y ∈ scope.names, y.2 ≠ .free) : GenS env scope x := ⟨h1, h2, h3, h4, h5, fun y hy e => absurd e (h6 y hy)⟩
structure Tabs {K : PySem.W.Frag} {mg : Str → Option Value} (base : Heap) (T : D K mg) : Prop where
  a : TabB base mg T.c_are_limits T.P_are_limits
  b : TabB base mg T.c_dealt T.P_dealt
def tabs {K : PySem.W.Frag} {mg : Str → Option Value} (T : D K mg) : List Addr := [T.P_are_limits, T.P_dealt]
def elems : PyData → List PyData
  | .tuple l => l
  | _ => []
def limsD (d : PyData) : Bool := rowD d 0 4 && (elems d).all limD
def hoursD (d : PyData) : Bool := rowD d 1 12 && ((elems d).all (fun x => betwD x 0 1) && hasOne 1 (elems d))
def rulesD : PyData → Bool
  | .tuple [a, b] => limsD a && hoursD b
  | _ => false
def anyD : PyData → Prop := fun _ => True
section
variable {P : Program} {w : World} {K : PySem.W.Frag} {mg : Str → Option Value} {base : Heap}
theorem ok_whole (T : D K mg) : FnOk P w K mg base CX0 1 T.f_is_whole T.d_is_whole ["value"] spWhole := by
  refine T.U_is_whole.ok sc_whole (fun vs H Q E h => ?_) (fun cdv A outer s H vs Q E hr h => ?_)
  · obtain ⟨v, d, rfl, _⟩ := h
    rfl
  · obtain ⟨v, d, rfl, hd, k⟩ := h
    have nd := sc_whole.nd
    refine ⟨_, pss_one (ps_ret (pe_and (pe_callB call_isi (by rfl) T.isinstance (by decide +kernel) (pa_cons (pv 0) (pa_cons (pe_bltn (v := .ty "int") (by rfl) T.int (by decide +kernel) rfl) pa_nil))) (pe_one (pe_not (pe_callB call_isi (by rfl) T.isinstance (by decide +kernel) (pa_cons (pv 0) (pa_cons (pe_bltn (v := .ty "bool") (by rfl) T.bool (by decide +kernel) rfl) pa_nil))))))), ?_⟩
    refine and_pure (isIntD d) (!isBoolD d) (fun Q' q' => ⟨_, rfl, _, _, _, _, _, rfl, .ty _, hd.ty, kInt d, q'⟩) (fun _ Q' q' => ⟨_, rfl, _, _, _, _, _, rfl, .ty _, hd.ty, kBool d, ?_⟩) ?_
    · exact ⟨_, rfl, q'⟩
    · have e : (isIntD d && !isBoolD d) = wholeD d := by cases d <;> rfl
      rw [e]
      exact k
theorem ok_betw (T : D K mg) : FnOk P w K mg base CX0 2 T.f_is_between T.d_is_between ["value", "low", "high"] spBetw := by
  refine T.U_is_between.ok sc_betw (fun vs H Q E h => ?_) (fun cdv A outer s H vs Q E hr h => ?_)
  · obtain ⟨v, d, lo, hi, rfl, _⟩ := h
    rfl
  · obtain ⟨v, d, lo, hi, rfl, hd, k⟩ := h
    refine ⟨_, pss_one (ps_ret (pe_and (pe_call (ok_whole T) hr rfl T.g_is_whole T.U_is_whole.kp T.b_is_whole .nil pass0 (pa_cons (pv 0) pa_nil)) (pe_one (pe_chain op_le op_le (pv 1) (pv 0) (pv 2))))), ?_⟩
    refine and_pure (wholeD d) (betwD d lo hi) (fun Q' q' => ⟨_, rfl, _, _, rfl, hd, q'⟩) (fun hw Q' q' => ?_) ?_
    · cases hd with
      | int n =>
        refine ⟨_, rfl, _, rfl, _, _, rfl, rfl, _, rfl, ite2 (fun h1 => ⟨_, rfl, _, _, rfl, rfl, ?_⟩) (fun h1 => ?_)⟩
        · have e : betwD (.int n) lo hi = decide (n ≤ hi) := by
            show (decide (lo ≤ n) && decide (n ≤ hi)) = _
            rw [h1, Bool.true_and]
          rw [e] at q'
          exact q'
        · have e : betwD (.int n) lo hi = false := by
            show (decide (lo ≤ n) && decide (n ≤ hi)) = _
            rw [Bool.eq_false_iff.mpr h1, Bool.false_and]
          rw [e] at q'
          exact q'
      | _ => cases hw
    · have e : (wholeD d && betwD d lo hi) = betwD d lo hi := by cases d <;> rfl
      rw [e]
      exact k
theorem ok_row (T : D K mg) : FnOk P w K mg base CX0 1 T.f_is_tuple T.d_is_tuple ["value", "low", "high"] spRow := by
  refine T.U_is_tuple.ok sc_row (fun vs H Q E h => ?_) (fun cdv A outer s H vs Q E hr h => ?_)
  · obtain ⟨v, d, lo, hi, rfl, _⟩ := h
    rfl
  · obtain ⟨v, d, lo, hi, rfl, hd, k⟩ := h
    refine ⟨_, pss_one (ps_ret (pe_and (pe_callB call_isi (by rfl) T.isinstance (by decide +kernel) (pa_cons (pv 0) (pa_cons (pe_bltn (v := .ty "tuple") (by rfl) T.tuple (by decide +kernel) rfl) pa_nil))) (pe_one (pe_chain op_le op_le (pv 1) (pe_callB call_len_seq (by rfl) T.len PySem.boot_len (pa_cons (pv 0) pa_nil)) (pv 2))))), ?_⟩
    refine and_pure (isTupD d) (rowD d lo hi) (fun Q' q' => ⟨_, rfl, _, _, _, _, _, rfl, .ty _, hd.ty, kTup d, q'⟩) (fun hw Q' q' => ?_) ?_
    · cases hd with
      | tup e a =>
        rename_i ad xs ds
        have el := a.len
        refine ⟨_, rfl, _, rfl, ad, _, rfl, .inr (SqT.of e), _, _, rfl, rfl, _, rfl, ite2 (fun h1 => ⟨_, rfl, _, _, rfl, rfl, ?_⟩) (fun h1 => ?_)⟩
        · have e : rowD (.tuple ds) lo hi = decide (((xs.length : Nat) : Int) ≤ hi) := by
            show (decide (lo ≤ (ds.length : Nat)) && decide (((ds.length : Nat) : Int) ≤ hi)) = _
            rw [← el, h1, Bool.true_and]
          rw [e] at q'
          exact q'
        · have e : rowD (.tuple ds) lo hi = false := by
            show (decide (lo ≤ (ds.length : Nat)) && decide (((ds.length : Nat) : Int) ≤ hi)) = _
            rw [← el, Bool.eq_false_iff.mpr h1, Bool.false_and]
          rw [e] at q'
          exact q'
      | _ => cases hw
    · have e : (isTupD d && rowD d lo hi) = rowD d lo hi := by cases d <;> rfl
      rw [e]
      exact k
end

theorem OdAll.ints {H : Hp} : ∀ {xs : List V} {ds : List PyData}, OdAll H xs ds → (∀ d ∈ ds, wholeD d = true) → ∃ ns : List Int, xs = ns.map V.int ∧ ds = ns.map PyData.int
  | _, _, .nil, _ => ⟨[], rfl, rfl⟩
  | _, _, .cons a b, h => by
    obtain ⟨ns, e1, e2⟩ := OdAll.ints b fun d hd => h d (List.mem_cons_of_mem _ hd)
    cases a with
    | int i => exact ⟨i :: ns, by rw [e1]; rfl, by rw [e2]; rfl⟩
    | non => cases h _ List.mem_cons_self
    | bl _ => cases h _ List.mem_cons_self
    | str _ => cases h _ List.mem_cons_self
    | lst _ _ => cases h _ List.mem_cons_self
    | tup _ _ => cases h _ List.mem_cons_self
    | dic _ _ _ => cases h _ List.mem_cons_self
theorem ints_flat (ns : List Int) : (ns.map V.int).all flatV = true := by
  induction ns with
  | nil => rfl
  | cons n l ih => rw [List.map_cons, List.all_cons, ih]; rfl
theorem ints_in (i : Int) (ns : List Int) : inV (.int i) (ns.map V.int) = hasOne i (ns.map PyData.int) := by
  induction ns with
  | nil => rfl
  | cons n l ih =>
    unfold inV at ih ⊢
    rw [List.map_cons, List.any_cons, ih]
    rfl
theorem betw_whole {d : PyData} {lo hi : Int} (h : betwD d lo hi = true) : wholeD d = true := by
  cases d <;> first | rfl | cases h
theorem row_tup {d : PyData} {lo hi : Int} (h : rowD d lo hi = true) : ∃ ds, d = .tuple ds ∧ lo ≤ (ds.length : Nat) ∧ ((ds.length : Nat) : Int) ≤ hi := by
  cases d with
  | tuple ds =>
    have h : (decide (lo ≤ (ds.length : Nat)) && decide (((ds.length : Nat) : Int) ≤ hi)) = true := h
    rw [Bool.and_eq_true, decide_eq_true_eq, decide_eq_true_eq] at h
    exact ⟨ds, rfl, h⟩
  | _ => cases h
theorem od_tup {H : Hp} {v : V} {ds : List PyData} (h : Od H v (.tuple ds)) : ∃ a xs, v = .ref a ∧ H a = some (.tup xs) ∧ OdAll H xs ds := by
  cases h with
  | tup e o => exact ⟨_, _, rfl, e, o⟩
theorem OdAll.get {H : Hp} : ∀ {vs : List V} {ds : List PyData}, OdAll H vs ds → ∀ {i : Nat} {d : PyData}, ds[i]? = some d → ∃ v, vs[i]? = some v ∧ Od H v d
  | _, _, .nil, i, d, e => by cases e
  | _, _, .cons a b, 0, d, e => by cases e; exact ⟨_, rfl, a⟩
  | _, _, .cons a b, i + 1, d, e => OdAll.get b e
section
variable {P : Program} {w : World} {K : PySem.W.Frag} {mg : Str → Option Value} {base : Heap}
theorem sc_lims : FnScope ["value"] ["value"] (defScope s_are_limits) := ⟨rfl, rfl, rfl, by decide +kernel, rfl, by decide +kernel, by decide +kernel⟩
theorem ok_lims (T : D K mg) (TB : Tabs base T) : FnOk P w K mg base CX0 5 T.f_are_limits T.d_are_limits ["value"] (spD (tabs T) anyD limsD) := by
  refine T.V_are_limits.ok sc_lims (fun vs H Q E h => ?_) (fun A outer s H vs Q E hr h => ?_)
  · obtain ⟨v, d, rfl, _⟩ := h
    rfl
  · obtain ⟨v, d, rfl, hd, _, hT, k⟩ := h
    refine ⟨_, pss_one (ps_ret (pe_and (pe_call (ok_row T) (hr.mono (by decide)) rfl T.g_is_tuple T.U_is_tuple.kp T.b_is_tuple .nil pass0 (pa_cons (pv 0) (pa_cons pe_int (pa_cons (pe_glob (v := .int 4) rfl T.g_MOST_PAIRS ⟨_, rfl⟩) pa_nil))))
      (pe_one (pe_allD (pb := limD) (k := 3) hr (by rfl) T.all TB.a rfl (gens_mk rfl rfl (by decide +kernel) (by rfl) (by rfl) (by decide +kernel)) (pv 0)
        (fun en m h0 v d hsc C hm hv sz => qe_call C (qf_limit C.mod T) (by rw [hsc]; decide +kernel) T.g_is_limit T.U_is_limit.kp T.b_is_limit (qes_cons (qe_name C (by rw [hsc]; decide +kernel) hm hv) qes_nil) ⟨d, rfl, sz, rfl⟩) (fun _ => rfl))))), ?_⟩
    refine ⟨_, rfl, v, d, _, _, rfl, hd, _, rfl, ?_⟩
    cases hq : rowD d 0 4 with
    | false =>
      have q := k H (.refl hT)
      have e : limsD d = false := by unfold limsD; rw [hq]; rfl
      rw [e] at q
      exact iteF q
    | true =>
      obtain ⟨ds, rfl, _⟩ := row_tup hq
      refine iteT ⟨_, rfl, ds, hd.dq, hT _ (by simp [tabs]), fun H2 t2 => ?_⟩
      have q := k H2 (.tab hT t2 (by simp [tabs]))
      have e : limsD (.tuple ds) = ds.all limD := by unfold limsD; rw [hq]; rfl
      rw [e] at q
      exact q
theorem rules_row (x : PyData) (h : rowD x 2 2 = false) : rulesD x = false := by
  cases x with
  | tuple l =>
    match l, h with
    | [], _ => rfl
    | [_], _ => rfl
    | [a, b], h => cases h
    | _ :: _ :: _ :: _, _ => rfl
  | _ => rfl
/-- limits, or an error that never comes -/
def spChk (ps : List Addr) : Sp := fun vs H Q _ => ∃ v d, vs = [v] ∧ Od H v d ∧ limsD d = true ∧ Tb ps H ∧ ∀ H', UpL ps H H' → Q .non H'
theorem sc_chk : FnScope ["given"] ["given"] (defScope s_check_limits) := ⟨rfl, rfl, rfl, by decide +kernel, rfl, by decide +kernel, by decide +kernel⟩
theorem ok_chk (T : D K mg) (TB : Tabs base T) : FnOk P w K mg base CX0 6 T.f_check_limits T.d_check_limits ["given"] (spChk (tabs T)) := by
  refine T.U_check_limits.ok sc_chk (fun vs H Q E h => ?_) (fun cdv A outer s H vs Q E hr h => ?_)
  · obtain ⟨v, d, rfl, _⟩ := h
    rfl
  · obtain ⟨v, d, rfl, hd, hl, hT, k⟩ := h
    refine ⟨_, pss_one (ps_if (pt_not (pt_val (pe_call (ok_lims T TB) hr rfl T.g_are_limits T.U_are_limits.kp T.b_are_limits .nil pass0 (pa_cons (pv 0) pa_nil))))
        (pss_one ps_never)
        pss_nil), ?_⟩
    refine ⟨_, rfl, v, d, rfl, hd, trivial, hT, fun H2 u2 => ⟨_, rfl, ?_⟩⟩
    rw [hl]
    exact iteF (k H2 u2)
end
end KP

set_option Elab.async false
set_option maxRecDepth 100000
set_option maxHeartbeats 4000000
set_option linter.all false
/-! Ours: open hours; the first wrong ask. -/
namespace KP
open PySem PySem.Spec PyProof.Rows L2 Gr GxR
def openI (hs : List Int) (t : Int) : Bool := hs[(t % ((hs.length : Nat) : Int)).toNat]? == some 1
def spOpens : Sp := fun vs H Q _ => ∃ (hv : V) (hs : List Int) (t : Int), vs = [hv, .int t] ∧ Od H hv (.tuple (hs.map PyData.int)) ∧ 0 < hs.length ∧ Q (.bl (openI hs t)) H
theorem od_nums {H : Hp} {xs : List V} {ns : List Int} (o : OdAll H xs (ns.map PyData.int)) : xs = ns.map V.int := by
  induction ns generalizing xs with
  | nil => cases o; rfl
  | cons n l ih =>
    cases o with
    | cons a b =>
      cases a
      rw [ih b]
      rfl
section
variable {P : Program} {w : World} {K : PySem.W.Frag} {mg : Str → Option Value} {base : Heap}
theorem sc_opens : FnScope ["hours", "moment"] ["hours", "moment"] (defScope s_opens) := ⟨rfl, rfl, rfl, by decide +kernel, rfl, by decide +kernel, by decide +kernel⟩
theorem ok_opens (T : D K mg) : FnOk P w K mg base CX0 1 T.f_opens T.d_opens ["hours", "moment"] spOpens := by
  refine T.U_opens.ok sc_opens (fun vs H Q E h => ?_) (fun cdv A outer s H vs Q E hr h => ?_)
  · obtain ⟨hv, hs, t, rfl, _⟩ := h
    rfl
  · obtain ⟨hv, hs, t, rfl, ho, h0, k⟩ := h
    have nd := sc_opens.nd
    obtain ⟨a, xs, rfl, ea, oa⟩ := od_tup ho
    have exs := od_nums oa
    subst exs
    refine ⟨_, pss_one (ps_ret (pe_cmpR op_eq (pe_ix ix_tup (pv 0) (pe_op op_mod (pv 1) (pe_callB call_len_seq (by rfl) T.len PySem.boot_len (pa_cons (pv 0) pa_nil))) (fun _ _ => rfl)) pe_int (nomark _))), ?_⟩
    have hb := Int.emod_nonneg t (b := ((hs.length : Nat) : Int)) (by omega)
    have hc := Int.emod_lt_of_pos t (b := ((hs.length : Nat) : Int)) (by omega)
    have hj : (t % ((hs.length : Nat) : Int)).toNat < hs.length := by omega
    refine ⟨_, rfl, _, rfl, _, rfl, a, _, rfl, .inr (SqT.of ea), ?_⟩
    have ex : atI (hs.map V.int) (t % (((hs.map V.int).length : Nat) : Int)) = some (V.int hs[(t % ((hs.length : Nat) : Int)).toNat]) := by
      rw [List.length_map]
      obtain ⟨j, ej⟩ : ∃ j : Nat, t % ((hs.length : Nat) : Int) = (j : Int) := ⟨(t % ((hs.length : Nat) : Int)).toNat, by omega⟩
      have hj2 : j < hs.length := by omega
      refine (congrArg (atI (hs.map V.int)) ej).trans ((atI_nat (v := V.int hs[j]) ?_).trans ?_)
      · rw [List.getElem?_map, List.getElem?_eq_getElem hj2]
        rfl
      · congr 2
        congr 1
        omega
    refine ⟨_, _, rfl, rfl, by rw [List.length_map]; omega, a, _, _, _, rfl, rfl, SqT.of ea, ex, rfl, ?_⟩
    have e : decide (V.int hs[(t % ((hs.length : Nat) : Int)).toNat] = V.int 1) = openI hs t := by
      unfold openI
      rw [List.getElem?_eq_getElem hj, Bool.eq_iff_iff]
      simp
    rw [e]
    exact k
/-- a tuple of whole numbers -/
def IsI (H : Hp) (v : V) (ns : List Int) : Prop := ∃ a, v = .ref a ∧ H a = some (.tup (ns.map V.int))
theorem ints_od {H : Hp} : ∀ ns : List Int, OdAll H (ns.map V.int) (ns.map PyData.int)
  | [] => .nil
  | n :: ns => .cons (.int n) (ints_od ns)
theorem IsI.od {H : Hp} {v : V} {ns : List Int} (h : IsI H v ns) : Od H v (.tuple (ns.map PyData.int)) := by
  obtain ⟨a, rfl, o⟩ := h
  exact .tup o (ints_od ns)
theorem od_I {H : Hp} {v : V} {ns : List Int} (h : Od H v (.tuple (ns.map PyData.int))) : IsI H v ns := by
  obtain ⟨a, xs, rfl, e, o⟩ := od_tup h
  exact ⟨a, rfl, by rw [e, od_nums o]⟩
/-- t[:i] -/
theorem sl_to {K : PySem.W.Frag} {x : V} {ns : List Int} {i : Nat} {H : Hp} {Q : VK} (h : IsI H x ns) (hi : i < ns.length) (k : ∀ z H', Same H H' → IsI H' z (ns.take i) → Q z H') : rSlA K x none (some (i : Int)) H Q := by
  obtain ⟨a, rfl, o⟩ := h
  refine ⟨a, _, rfl, SqT.of o, fun q => ?_, fun _ p hp => k _ _ (same_upd hp) ⟨p, rfl, by rw [upd_same, cutV_to, List.map_take]⟩⟩
  exfalso
  rw [HT.sIx_nat, List.length_map] at q
  omega
def politeAt (ps : List (Int × Int)) (hs ns : List Int) (i : Nat) : Bool := openI hs (ns.getD i 0) && ps.all (apI (ns.take i) (ns.getD i 0))
def firstI (ps : List (Int × Int)) (hs ns : List Int) : Option Nat := (List.range ns.length).find? (fun i => !politeAt ps hs ns i)
def optV : Option Nat → V
  | some i => .int (i : Nat)
  | none => .non
def rulesP (ps : List (Int × Int)) (hs : List Int) : PyData := .tuple [.tuple ((ps.map inD).map tw), .tuple (hs.map PyData.int)]
theorem first_at {ps : List (Int × Int)} {hs ns : List Int} {i : Nat} (hi : i < ns.length) (h : ∀ j, j < i → politeAt ps hs ns j = true) (hb : politeAt ps hs ns i = false) : firstI ps hs ns = some i := by
  unfold firstI
  rw [List.find?_range_eq_some]
  refine ⟨by rw [hb]; rfl, List.mem_range.mpr hi, fun j hj => by rw [h j hj]; rfl⟩
theorem first_none {ps : List (Int × Int)} {hs ns : List Int} (h : ∀ j, j < ns.length → politeAt ps hs ns j = true) : firstI ps hs ns = none := by
  unfold firstI
  rw [List.find?_eq_none]
  intro j hj
  rw [h j (List.mem_range.mp hj)]
  decide
def spFirst (L : List Addr) : Sp := fun vs H Q _ => ∃ (rv av : V) (ps : List (Int × Int)) (hs ns : List Int), vs = [rv, av] ∧ Od H rv (rulesP ps hs) ∧ (∀ p ∈ ps, 1 ≤ p.1) ∧ 0 < hs.length ∧ Od H av (.tuple (ns.map PyData.int)) ∧ Tb L H ∧ ∀ H', UpL L H H' → Q (optV (firstI ps hs ns)) H'
end
end KP

set_option Elab.async false
set_option maxRecDepth 100000
set_option maxHeartbeats 4000000
set_option linter.all false
/-! Ours: the checks of right arguments; the functions. -/
namespace KP
open PySem PySem.Spec PyProof.Rows L2 Gr GxR
theorem gn {i : Nat} {v : V} {σ : L2.St} {H : Hp} {Q : L2.St → Hp → Prop} (h : Q (σ.set i (some v)) H) : gName i v σ H Q := h
theorem next_of {E : Ends} {σ : L2.St} {H : Hp} (h : E.nx σ H) : tNext E σ H := h
def spCk (L : List Addr) (f : PyData → Bool) : Sp := fun vs H Q _ => ∃ v d, vs = [v] ∧ Od H v d ∧ f d = true ∧ Tb L H ∧ ∀ H', UpL L H H' → Q .non H'
def spFrom : Sp := fun vs H Q _ => ∃ t lo : Int, vs = [.int t, .int lo] ∧ lo ≤ t ∧ Q .non H
def asc : Int → List Int → Prop
  | _, [] => True
  | m, n :: l => m ≤ n ∧ asc n l
def spBack : Sp := fun vs H Q _ => ∃ (v : V) (ns : List Int), vs = [v] ∧ Od H v (.tuple (ns.map PyData.int)) ∧ asc 0 ns ∧ ∀ H', Same H H' → Q .non H'
def spAsks : Sp := fun vs H Q _ => ∃ (v : V) (ns : List Int), vs = [v] ∧ Od H v (.tuple (ns.map PyData.int)) ∧ asc 0 ns ∧ ns.length ≤ 200 ∧ ∀ H', Same H H' → Q .non H'
def spPol (L : List Addr) : Sp := fun vs H Q _ => ∃ (rv av : V) (ps : List (Int × Int)) (hs ns : List Int), vs = [rv, av] ∧ Od H rv (rulesP ps hs) ∧ (∀ p ∈ ps, 1 ≤ p.1) ∧ 0 < hs.length ∧ Od H av (.tuple (ns.map PyData.int)) ∧ firstI ps hs ns = none ∧ Tb L H ∧ ∀ H', UpL L H H' → Q .non H'
section
variable {P : Program} {w : World} {K : PySem.W.Frag} {mg : Str → Option Value} {base : Heap}
end
end KP

set_option Elab.async false
set_option maxRecDepth 100000
set_option maxHeartbeats 4000000
set_option linter.all false
/-! Ours: the functions that are asked, of right arguments. -/
namespace KP
open PySem PySem.Spec PyProof.Rows L2 Gr GxR
def spIsOpen (L : List Addr) : Sp := fun vs H Q _ => ∃ (hv : V) (hs : List Int) (t : Int), vs = [hv, .int t] ∧ Od H hv (.tuple (hs.map PyData.int)) ∧ hoursD (.tuple (hs.map PyData.int)) = true ∧ 0 < hs.length ∧ 0 ≤ t ∧ Tb L H ∧ ∀ H', UpL L H H' → Q (.bl (openI hs t)) H'
structure Right (ps : List (Int × Int)) (hs ns : List Int) : Prop where
  r : rulesD (rulesP ps hs) = true
  p : ∀ p ∈ ps, 1 ≤ p.1
  h : 0 < hs.length
  a : asc 0 ns
  n : ns.length ≤ 200
def spFW (L : List Addr) : Sp := fun vs H Q _ => ∃ (rv av : V) (ps : List (Int × Int)) (hs ns : List Int), vs = [rv, av] ∧ Od H rv (rulesP ps hs) ∧ Od H av (.tuple (ns.map PyData.int)) ∧ Right ps hs ns ∧ Tb L H ∧ ∀ H', UpL L H H' → Q (optV (firstI ps hs ns)) H'
def spPolite (L : List Addr) : Sp := fun vs H Q _ => ∃ (rv av : V) (ps : List (Int × Int)) (hs ns : List Int), vs = [rv, av] ∧ Od H rv (rulesP ps hs) ∧ Od H av (.tuple (ns.map PyData.int)) ∧ Right ps hs ns ∧ Tb L H ∧ ∀ H', UpL L H H' → Q (.bl (firstI ps hs ns).isNone) H'
section
variable {P : Program} {w : World} {K : PySem.W.Frag} {mg : Str → Option Value} {base : Heap}
end
end KP

set_option Elab.async false
set_option maxRecDepth 100000
set_option maxHeartbeats 4000000
set_option linter.all false
/-! Ours: may_ask, of right arguments and polite asks. -/
namespace KP
open PySem PySem.Spec PyProof.Rows L2 Gr GxR
def spMay (L : List Addr) : Sp := fun vs H Q _ => ∃ (rv av : V) (ps : List (Int × Int)) (hs ns : List Int) (t : Int), vs = [rv, av, .int t] ∧ Od H rv (rulesP ps hs) ∧ Od H av (.tuple (ns.map PyData.int)) ∧ Right ps hs ns ∧ firstI ps hs ns = none ∧ 0 ≤ t ∧ (∀ x, atI ns (-1) = some x → x ≤ t) ∧ Tb L H ∧ ∀ H', UpL L H H' → Q (.bl (openI hs t && ps.all (apI ns t))) H'
theorem split_ifS {c : TT} {t u : TS} {rest : TS} {D : Ends} {σ : L2.St} {H : Hp} (P1 P2 : Hp → Prop) (hc : ∀ Q : Bool → Hp → Prop, (∀ H', P1 H' → Q true H') → (∀ H', P2 H' → Q false H') → c σ H Q) (h1 : ∀ H', P1 H' → t { D with nx := rest D } σ H') (h2 : ∀ H', P2 H' → u { D with nx := rest D } σ H') : tSeq (tIfS c t u) rest D σ H :=
  hc _ (fun H' q => iteT (h1 H' q)) (fun H' q => iteF (h2 H' q))
theorem atI_mapV {ns : List Int} {i x : Int} (h : atI ns i = some x) : atI (ns.map V.int) i = some (.int x) := by
  unfold atI at h ⊢
  rw [List.length_map]
  cases e : ixN ns.length i with
  | none => rw [e] at h; cases h
  | some j =>
    rw [e] at h
    have h : ns[j]? = some x := h
    show (ns.map V.int)[j]? = _
    rw [List.getElem?_map, h]
    rfl
section
variable {P : Program} {w : World} {K : PySem.W.Frag} {mg : Str → Option Value} {base : Heap}
end
end KP

set_option Elab.async false
set_option maxRecDepth 100000
set_option linter.all false
/-! Ours: keeping apart is counting: mathematics. -/
namespace KP
open PySem PySem.Spec PyProof.Rows L2 Gr GxR
def Srt (ns : List Int) : Prop := ∀ (i j : Nat) (hi : i < ns.length) (hj : j < ns.length), i ≤ j → ns[i] ≤ ns[j]
theorem asc_get : ∀ {ns : List Int} {m : Int}, asc m ns → ∀ (i : Nat) (hi : i < ns.length), m ≤ ns[i]
  | n :: l, m, h, 0, _ => h.1
  | n :: l, m, h, i + 1, hi => by
    have hi' : i < l.length := by simpa using hi
    have a := asc_get h.2 i hi'
    have b := h.1
    show m ≤ l[i]
    omega
theorem asc_srt : ∀ {ns : List Int} {m : Int}, asc m ns → Srt ns
  | [], _, _, i, j, hi, _, _ => absurd hi (Nat.not_lt_zero _)
  | n :: l, m, h, 0, 0, _, _, _ => Int.le_refl _
  | n :: l, m, h, 0, j + 1, _, hj, _ => asc_get h.2 j (by simpa using hj)
  | n :: l, m, h, i + 1, 0, _, _, hij => absurd hij (Nat.not_succ_le_zero _)
  | n :: l, m, h, i + 1, j + 1, hi, hj, hij => asc_srt h.2 i j (by simpa using hi) (by simpa using hj) (by omega)
def above (c : Int) (ns : List Int) : Nat := ns.countP (fun x => decide (c < x))
theorem above_split (c : Int) (ns : List Int) (m : Nat) : above c ns = above c (ns.take m) + above c (ns.drop m) := by
  unfold above
  rw [← List.countP_append, List.take_append_drop]
theorem above_all {c : Int} {ns : List Int} (h : ∀ x ∈ ns, c < x) : above c ns = ns.length := by
  unfold above
  rw [List.countP_eq_length]
  intro x hx
  exact decide_eq_true (h x hx)
theorem above_none {c : Int} {ns : List Int} (h : ∀ x ∈ ns, x ≤ c) : above c ns = 0 := by
  unfold above
  rw [List.countP_eq_zero]
  intro x hx q
  have := of_decide_eq_true q
  have := h x hx
  omega
theorem above_le (c : Int) (ns : List Int) : above c ns ≤ ns.length := List.countP_le_length
/-- k or more stand above c exactly if the one k from the end does -/
theorem above_iff {ns : List Int} (hs : Srt ns) {c : Int} {k : Nat} (hk : 1 ≤ k) (hl : k ≤ ns.length) : k ≤ above c ns ↔ c < ns[ns.length - k] := by
  constructor
  · intro h
    by_cases q : c < ns[ns.length - k]
    · exact q
    · exfalso
      have e := above_split c ns (ns.length - k + 1)
      have z : above c (ns.take (ns.length - k + 1)) = 0 := above_none fun x hx => by
        obtain ⟨i, hi, rfl⟩ := List.getElem_of_mem hx
        rw [List.length_take] at hi
        rw [List.getElem_take]
        have := hs i (ns.length - k) (by omega) (by omega) (by omega)
        omega
      have d := above_le c (ns.drop (ns.length - k + 1))
      rw [List.length_drop] at d
      omega
  · intro h
    have e := above_split c ns (ns.length - k)
    have z : above c (ns.drop (ns.length - k)) = (ns.drop (ns.length - k)).length := above_all fun x hx => by
      obtain ⟨i, hi, rfl⟩ := List.getElem_of_mem hx
      rw [List.length_drop] at hi
      rw [List.getElem_drop]
      have := hs (ns.length - k) (ns.length - k + i) (by omega) (by omega) (by omega)
      omega
    rw [List.length_drop] at z
    omega
/-- with t itself no more than k stand within the last w moments -/
theorem ap_count {ns : List Int} (hs : Srt ns) {t : Int} {q : Int × Int} (h1 : 1 ≤ q.1) : apI ns t q = decide (((above (t - q.2) ns : Nat) : Int) < q.1) := by
  have hle := above_le (t - q.2) ns
  unfold apI
  by_cases hl : ((ns.length : Nat) : Int) < q.1
  · rw [decide_eq_true hl, decide_eq_true (by omega), Bool.true_or]
  · rw [decide_eq_false hl, Bool.false_or]
    obtain ⟨x, hx⟩ := atI_some h1 hl
    rw [hx]
    have hk : 1 ≤ q.1.toNat := by omega
    have hl' : q.1.toNat ≤ ns.length := by omega
    have ex : x = ns[ns.length - q.1.toNat] := by
      unfold atI ixN at hx
      rw [if_neg (by omega), if_pos (by omega)] at hx
      have hx : ns[(-q.1 + ((ns.length : Nat) : Int)).toNat]? = some x := hx
      have e : (-q.1 + ((ns.length : Nat) : Int)).toNat = ns.length - q.1.toNat := by omega
      rw [e, List.getElem?_eq_getElem (by omega)] at hx
      exact (Option.some.inj hx).symm
    have := above_iff hs (c := t - q.2) hk hl'
    rw [← ex] at this
    show decide (q.2 ≤ t - x) = _
    rw [Bool.eq_iff_iff, decide_eq_true_eq, decide_eq_true_eq]
    constructor
    · intro h
      have : ¬ q.1.toNat ≤ above (t - q.2) ns := fun z => by
        have := this.mp z
        omega
      omega
    · intro h
      have : ¬ t - q.2 < x := fun z => by
        have := this.mpr z
        omega
      omega
end KP

set_option Elab.async false
set_option maxRecDepth 100000
set_option maxHeartbeats 4000000
set_option linter.all false
/-! Ours: the law's open hours; its first wrong ask by a list's length. -/
namespace KP
open PySem PySem.Spec PyProof.Rows L2 Gr GxR
theorem ix_tupB {X : Cx} {s : Shared} {H : Hp} {sc : Scope} {en : Env} {fp : List Addr} : IxR (X.blk s H sc en fp) (rIxT X.K) := ix_tup
theorem IsI.same {H H1 : Hp} {v : V} {ns : List Int} (h : IsI H v ns) (s : Same H H1) : IsI H1 v ns := let ⟨a, e, o⟩ := h; ⟨a, e, s _ _ o⟩
/-- t[:i], all of it too -/
theorem sl_upto {K : PySem.W.Frag} {x : V} {ns : List Int} {i : Nat} {H : Hp} {Q : VK} (h : IsI H x ns) (k : ∀ z H', Same H H' → IsI H' z (ns.take i) → Q z H') : rSlA K x none (some (i : Int)) H Q := by
  obtain ⟨a, rfl, o⟩ := h
  refine ⟨a, _, rfl, SqT.of o, fun q => ?_, fun _ p hp => k _ _ (same_upd hp) ⟨p, rfl, by rw [upd_same, cutV_to, List.map_take]⟩⟩
  rw [HT.sIx_nat, List.length_map] at q
  refine k _ _ (.refl _) ⟨a, rfl, ?_⟩
  rw [List.take_of_length_le (by omega)]
  exact o
def spWrongAt : Sp := fun vs H Q _ => ∃ (lv hv av : V) (ps : List (Int × Int)) (hs ns : List Int), vs = [lv, hv, av] ∧ Od H lv (.tuple ((ps.map inD).map tw)) ∧ (∀ p ∈ ps, 1 ≤ p.1 ∧ 1 ≤ p.2 ∧ p.2 ≤ 1000) ∧ Od H hv (.tuple (hs.map PyData.int)) ∧ 0 < hs.length ∧ Od H av (.tuple (ns.map PyData.int)) ∧ Srt ns ∧ ns.length ≤ 1000 ∧ ∀ H', Same H H' → Q (optV (firstI ps hs ns)) H'
theorem ifop {r : R2} {t1 t2 : TE} {t u : TS} {D : Ends} {σ : L2.St} {H : Hp} (h : t1 σ H fun x H1 => t2 σ H1 fun y H2 => r x y H2 fun x H' => ∃ k, x = V.bl k ∧ if k = true then t D σ H' else u D σ H') : tIfS (tTest (tOp r t1 t2)) t u D σ H := h
theorem pair_at {H : Hp} : ∀ {ls : List V} {ps : List (Int × Int)}, OdAll H ls ((ps.map inD).map tw) → ∀ {i : Nat} {x : V}, ls[i]? = some x → ∃ p b, ps[i]? = some p ∧ x = .ref b ∧ H b = some (.tup [.int p.1, .int p.2])
  | _, [], .nil, i, x, h => by cases h
  | _, p :: ps, .cons a _, 0, x, h => by
    cases h
    obtain ⟨b, xs, rfl, e, o⟩ := od_tup a
    match xs, o with
    | [y, z], .cons o1 (.cons o2 .nil) =>
      cases o1
      cases o2
      exact ⟨p, b, rfl, rfl, e⟩
  | _, p :: ps, .cons _ r, i + 1, x, h => pair_at (ps := ps) r (i := i) h
theorem above_len (c : Int) (l : List Int) : above c l = (l.filter fun x => decide (c < x)).length := List.countP_eq_length_filter
theorem above_take {ns : List Int} {i : Nat} (hi : i < ns.length) {w : Int} (hw : 1 ≤ w) : above (ns[i] - w) (ns.take (i + 1)) = above (ns[i] - w) (ns.take i) + 1 := by
  rw [List.take_add_one, List.getElem?_eq_getElem hi]
  unfold above
  rw [List.countP_append]
  congr 1
  show List.countP _ [ns[i]] = 1
  rw [List.countP_cons_of_pos (by exact decide_eq_true (by omega)), List.countP_nil]
theorem srt_take {ns : List Int} (h : Srt ns) (i : Nat) : Srt (ns.take i) := fun a b ha hb hab => by
  rw [List.length_take] at ha hb
  rw [List.getElem_take, List.getElem_take]
  exact h a b (by omega) (by omega) hab
section
variable {P : Program} {w : World} {K : PySem.W.Frag} {mg : Str → Option Value} {base : Heap}
theorem sc_lopen : FnScope ["_law_clock", "_law_time"] ["_law_clock", "_law_time"] (defScope s_l_open) := ⟨rfl, rfl, rfl, by decide +kernel, rfl, by decide +kernel, by decide +kernel⟩
theorem ok_lopen (T : D K mg) : FnOk P w K mg base CX0 1 T.f_l_open T.d_l_open ["_law_clock", "_law_time"] spOpens := by
  refine T.U_l_open.ok sc_lopen (fun vs H Q E h => ?_) (fun cdv A outer s H vs Q E hr h => ?_)
  · obtain ⟨hv, hs, t, rfl, _⟩ := h
    rfl
  · obtain ⟨hv, hs, t, rfl, ho, h0, k⟩ := h
    have nd := sc_lopen.nd
    obtain ⟨a, xs, rfl, ea, oa⟩ := od_tup ho
    have exs := od_nums oa
    subst exs
    refine ⟨_, pss_one (ps_ret (pe_cmpR op_eq (pe_ix ix_tup (pv 0) (pe_op op_mod (pe_callTy call_int1 (by rfl) T.int PyProof.Rows.boot_int (pa_cons (pv 1) pa_nil)) (pe_callB call_len_seq (by rfl) T.len PySem.boot_len (pa_cons (pv 0) pa_nil))) (fun _ _ => rfl)) pe_int (nomark _))), ?_⟩
    have hb := Int.emod_nonneg t (b := ((hs.length : Nat) : Int)) (by omega)
    have hc := Int.emod_lt_of_pos t (b := ((hs.length : Nat) : Int)) (by omega)
    have hj : (t % ((hs.length : Nat) : Int)).toNat < hs.length := by omega
    have ex : atI (hs.map V.int) (t % (((hs.map V.int).length : Nat) : Int)) = some (V.int hs[(t % ((hs.length : Nat) : Int)).toNat]) := by
      rw [List.length_map]
      obtain ⟨j, ej⟩ : ∃ j : Nat, t % ((hs.length : Nat) : Int) = (j : Int) := ⟨(t % ((hs.length : Nat) : Int)).toNat, by omega⟩
      have hj2 : j < hs.length := by omega
      refine (congrArg (atI (hs.map V.int)) ej).trans ((atI_nat (v := V.int hs[j]) ?_).trans ?_)
      · rw [List.getElem?_map, List.getElem?_eq_getElem hj2]
        rfl
      · congr 2
        congr 1
        omega
    refine ⟨_, rfl, _, rfl, .inl ⟨_, rfl, _, rfl, a, _, rfl, .inr (SqT.of ea), _, _, rfl, rfl, by rw [List.length_map]; omega, a, _, _, _, rfl, rfl, SqT.of ea, ex, rfl, ?_⟩⟩
    have e : decide (V.int hs[(t % ((hs.length : Nat) : Int)).toNat] = V.int 1) = openI hs t := by
      unfold openI
      rw [List.getElem?_eq_getElem hj, Bool.eq_iff_iff]
      simp
    rw [e]
    exact k
theorem sc_lwat : FnScope ["_law_pairs", "_law_clock", "_law_row", "_law_at", "_law_time", "_law_pair", "_law_other"] ["_law_pairs", "_law_clock", "_law_row"] (defScope s_l_wrong_at) := ⟨rfl, rfl, rfl, by decide +kernel, rfl, by decide +kernel, by decide +kernel⟩
theorem ok_lwat (T : D K mg) : FnOk P w K mg base CX0 2 T.f_l_wrong_at T.d_l_wrong_at ["_law_pairs", "_law_clock", "_law_row"] spWrongAt := by
  refine T.U_l_wrong_at.ok sc_lwat (fun vs H Q E h => ?_) (fun cdv A outer s H vs Q E hr h => ?_)
  · obtain ⟨lv, hv, av, ps, hs, ns, rfl, _⟩ := h
    rfl
  · obtain ⟨lv, hv, av, ps, hs, ns, rfl, hL, hp, hH, h0, hA, hs', hn, k⟩ := h
    have nd := sc_lwat.nd
    have mz : 5000 ≤ sizeLine := by decide
    refine ⟨_, pss_cons (ps_for PassesOwn.never rfl (pi_enumT (by rfl) T.enumerate (pa_cons (pv 2) pa_nil)) (pg_tup rfl (pgs_cons (pg_name (i := 3) nd rfl (.inl rfl)) (pgs_cons (pg_name (i := 4) nd rfl (.inr rfl)) pgs_nil)))
        (pss_cons (ps_if (pt_not (pt_val (pe_call (ok_lopen T) hr rfl T.g_l_open T.U_l_open.kp T.b_l_open .nil pass0 (pa_cons (pv 1) (pa_cons (pv 4) pa_nil)))))
          (pss_one (ps_ret (pv 3)))
          (pss_nil))
        (pss_one (ps_for PassesOwn.never rfl (pi_tup (pv 0)) (pg_name (i := 5) nd rfl (.inr rfl))
          (pss_one (ps_if (pt_cmpR op_gt (pe_callB call_len_seq (by rfl) T.len PySem.boot_len (pa_cons (pe_lc (own := [("_law_other", 6)]) (g := gName 6) rfl nd (pi_tup (pe_slice sl_tupA (pv 2) po_none (po_some (pe_op op_add (pv 3) pe_int)))) (blkOk_by (N := ["_law_pairs", "_law_clock", "_law_row", "_law_at", "_law_time", "_law_pair", "_law_other"]) (sc := defScope s_l_wrong_at) (by decide +kernel)) (fun _ _ _ _ _ => pg_name (i := 6) nd rfl (.inl rfl)) (fun _ _ _ _ _ => (pts_one (pt_cmpR op_gt (pv 6) (pe_op op_sub (pv 4) (pe_ix ix_tupB (pv 5) pe_int (fun _ _ => rfl))) (nomark _)))) (fun _ _ _ _ _ => pv 6)) pa_nil)) (pe_ix ix_tup (pv 5) pe_int (fun _ _ => rfl)) (nomark _))
            (pss_one (ps_ret (pv 3)))
            (pss_nil)))))))
      (pss_one (ps_ret pe_non)), ?_⟩
    obtain ⟨a, rfl, ea⟩ := od_I hA
    obtain ⟨la, ls, rfl, el, ol⟩ := od_tup hL
    have lls : ls.length = ps.length := by rw [ol.len, List.length_map, List.length_map]
    refine ⟨_, rfl, a, _, rfl, SqT.of ea, for_it (walk_tp (K := K) (a := a) (xs := ns.map V.int)) (fun i σ H2 => Same H H2 ∧ (∀ j, j < i → politeAt ps hs ns j = true) ∧ ∃ (v3 v4 v5 v6 : Option V), σ = [some (.ref la), some hv, some (.ref a), v3, v4, v5, v6]) ⟨.refl _, fun _ h => absurd h (Nat.not_lt_zero _), none, none, none, none, rfl⟩ (fun i σ H2 _ q => SqT.of (q.1 _ _ ea)) ?_ ?_⟩
    · rintro i x σ H2 H3 hi ⟨s2, hpo, v3, v4, v5, v6, rfl⟩ ⟨Tt, y, rfl, hTn, rfl, hy⟩
      rw [List.length_map] at hi
      rw [List.getElem?_map, List.getElem?_eq_getElem hi] at hy
      cases hy
      have s3 := s2.trans (same_upd (o := HO.tup [V.int (i : Nat), V.int ns[i]]) hTn)
      refine ⟨_, _, rfl, SqT.of upd_same, rfl, _, _, rfl, _, _, rfl, rfl, ?_⟩
      dsimp only
      generalize upd H2 Tt (.tup [V.int (i : Nat), V.int ns[i]]) = H3 at *
      have eg : ns.getD i 0 = ns[i] := by rw [List.getD_eq_getElem?_getD, List.getElem?_eq_getElem hi]; rfl
      have ep : politeAt ps hs ns i = (openI hs ns[i] && ps.all (apI (ns.take i) ns[i])) := by unfold politeAt; rw [eg]
      refine ⟨_, rfl, _, rfl, hv, hs, ns[i], rfl, hH.same s3, h0, _, rfl, ?_⟩
      cases ho : openI hs ns[i] with
      | false =>
        have q := k H3 s3
        rw [first_at hi hpo (by rw [ep, ho]; rfl)] at q
        exact iteT ⟨_, rfl, q⟩
      | true =>
        refine iteF (next_of ?_)
        dsimp only
        refine ⟨_, rfl, la, rfl, ⟨_, SqT.of (s3 _ _ el)⟩, for_tup (K := K) (a := la) (xs := ls) (fun m σ H5 => Same H3 H5 ∧ (∀ mm (hm : mm < ps.length), mm < m → apI (ns.take i) ns[i] ps[mm] = true) ∧ ∃ (v5 v6 : Option V), σ = [some (.ref la), some hv, some (.ref a), some (.int (i : Nat)), some (.int ns[i]), v5, v6]) ⟨.refl _, fun _ _ h => absurd h (Nat.not_lt_zero _), _, _, rfl⟩ (fun m σ H5 _ q => SqT.of (q.1 _ _ (s3 _ _ el))) ?_ ?_⟩
        · rintro m x σ H5 hx ⟨s5, hm, v5, v6, rfl⟩
          obtain ⟨p, b, hpm, rfl, eb⟩ := pair_at ol hx
          obtain ⟨hmp, hpe⟩ := List.getElem?_eq_some_iff.mp hpm
          have hpp := hp p (List.mem_of_getElem? hpm)
          have s05 := s3.trans s5
          refine ifop ?_
          refine ⟨_, rfl, _, rfl, _, _, rfl, rfl, _, rfl, sl_upto (i := i + 1) ⟨a, rfl, s05 _ _ ea⟩ fun z H6 s6 ⟨c, ec, oc⟩ => ?_⟩
          subst ec
          have s06 := s05.trans s6
          refine ⟨c, rfl, ⟨_, SqT.of oc⟩, fun D hD => lc_tup (K := K) (a := c) (xs := (ns.take (i + 1)).map V.int) (fun j Hx => Same H6 Hx ∧ Hx D = some (.lst ((((ns.take (i + 1)).take j).filter (fun x => decide (ns[i] - p.2 < x))).map V.int))) ⟨same_upd hD, upd_same⟩ (fun j Hx _ q => SqT.of (q.1 _ _ oc)) ?_ ?_⟩
          · rintro j x Hx hx ⟨sx, ex⟩
            rw [List.getElem?_map] at hx
            obtain ⟨n, hn', rfl⟩ := Option.map_eq_some_iff.mp hx
            refine ⟨rfl, ?_⟩
            have et : (ns.take (i + 1)).take (j + 1) = (ns.take (i + 1)).take j ++ [n] := by rw [List.take_add_one, hn']; rfl
            refine ⟨_, rfl, _, rfl, _, rfl, b, _, _, _, rfl, rfl, SqT.of (sx _ _ (s06 _ _ eb)), rfl, _, _, rfl, rfl, _, _, rfl, rfl, _, rfl, ite2 (fun h => ?_) (fun h => ?_)⟩
            · refine ⟨_, rfl, _, ex, ?_, same_into hD sx, ?_⟩
              · rw [List.length_map]
                have := List.length_filter_le (fun x => decide (ns[i] - p.2 < x)) ((ns.take (i + 1)).take j)
                rw [List.length_take, List.length_take] at this
                omega
              · rw [upd_same, et, List.filter_append, List.map_append, List.filter_cons_of_pos (by exact h)]
                rfl
            · refine ⟨sx, ?_⟩
              rw [ex, et, List.filter_append, List.filter_cons_of_neg (by exact h), List.filter_nil, List.append_nil]
          · rintro Hx ⟨sx, ex⟩
            rw [List.length_map, List.take_length] at ex
            have s0x := s06.trans sx
            have ec : (((((ns.take (i + 1)).filter (fun x => decide (ns[i] - p.2 < x))).map V.int).length : Nat) : Int) = ((above (ns[i] - p.2) (ns.take i) + 1 : Nat) : Int) := by
              rw [List.length_map, ← above_len, above_take hi hpp.2.1]
            have eap := ap_count (srt_take hs' i) (t := ns[i]) (q := p) hpp.1
            refine ⟨D, _, rfl, .inl (SqL.of ex), _, rfl, b, _, _, _, rfl, rfl, SqT.of (s0x _ _ eb), rfl, _, _, rfl, rfl, _, rfl, ite2 (fun h => ?_) (fun h => ?_)⟩
            · have h := of_decide_eq_true h
              have hbad : apI (ns.take i) ns[i] p = false := by
                rw [eap]
                exact decide_eq_false (by omega)
              have q := k Hx s0x
              rw [first_at hi hpo (by
                rw [ep, ho, Bool.true_and, Bool.eq_false_iff]
                intro z
                have := List.all_eq_true.mp z p (List.mem_of_getElem? hpm)
                rw [hbad] at this
                cases this)] at q
              exact ⟨_, rfl, q⟩
            · have h : ¬ p.1 < ((above (ns[i] - p.2) (ns.take i) + 1 : Nat) : Int) := fun q => h (decide_eq_true (by rw [ec]; exact q))
              refine ⟨s5.trans (s6.trans sx), fun mm hmm hml => ?_, _, _, rfl⟩
              by_cases zz : mm = m
              · subst zz
                rw [hpe, eap]
                exact decide_eq_true (by omega)
              · exact hm mm hmm (by omega)
        · rintro σ H5 ⟨s5, hm, v5, v6, rfl⟩
          refine ⟨s3.trans s5, fun j hj => ?_, _, _, _, _, rfl⟩
          by_cases zz : j = i
          · subst zz
            rw [ep, ho, Bool.true_and]
            refine List.all_eq_true.mpr fun q hq => ?_
            obtain ⟨mm, hmm, rfl⟩ := List.getElem_of_mem hq
            exact hm mm hmm (by rw [lls]; exact hmm)
          · exact hpo j (by omega)
    · rintro σ H2 ⟨s2, hpo, v3, v4, v5, v6, rfl⟩
      rw [List.length_map] at hpo
      have q := k H2 s2
      rw [first_none hpo] at q
      exact q
end
end KP

set_option Elab.async false
set_option maxRecDepth 100000
set_option maxHeartbeats 4000000
set_option linter.all false
/-! Ours: the first wrong ask by a dict of counts. -/
namespace KP
open PySem PySem.Spec PyProof.Rows L2 Gr GxR
theorem above_step (c : Int) : ∀ l : List Int, above (c - 1) l = above c l + l.count c
  | [] => rfl
  | x :: l => by
    have ih := above_step c l
    unfold above at ih ⊢
    rw [List.countP_cons, List.countP_cons, List.count_cons, ih]
    by_cases h1 : c < x
    · have h2 : ¬ x = c := by omega
      simp only [decide_eq_true h1, decide_eq_true (show c - 1 < x by omega), beq_iff_eq, h2, if_true, if_false]
      omega
    · by_cases h2 : x = c
      · subst h2
        simp only [decide_eq_false h1, decide_eq_true (show x - 1 < x by omega), beq_self_eq_true, if_true, Bool.false_eq_true, if_false]
        omega
      · simp only [decide_eq_false h1, decide_eq_false (show ¬ c - 1 < x by omega), beq_iff_eq, h2, Bool.false_eq_true, if_false]
        omega
/-- the counts of the last w moments together -/
theorem sum_counts {l : List Int} {t : Int} (h : ∀ x ∈ l, x ≤ t) : ∀ w : Nat, ((List.range w).map fun b : Nat => ((l.count (t - (b : Int)) : Nat) : Int)).sum = ((above (t - (w : Int)) l : Nat) : Int)
  | 0 => by
    rw [show t - ((0 : Nat) : Int) = t by omega, above_none h]
    rfl
  | w + 1 => by
    rw [List.range_succ, List.map_append, List.sum_append, sum_counts h w]
    have e := above_step (t - (w : Int)) l
    rw [show t - ((w + 1 : Nat) : Int) = t - (w : Int) - 1 by omega, e]
    show _ + ((((l.count (t - (w : Int)) : Nat) : Int)) + 0) = _
    omega
/-- the dict holds the counts of l -/
def Cnt (kvs : List (Key × V)) (l : List Int) : Prop := (∀ x : Int, (valV kvs (.inl x)).getD (.int 0) = .int (l.count x : Nat)) ∧ kvs.length ≤ l.length
theorem cnt_put {kvs : List (Key × V)} {l : List Int} {x : Int} (h : Cnt kvs l) : Cnt (putK kvs (.inl x) (.int ((l.count x : Nat) + 1))) (l ++ [x]) := by
  refine ⟨fun y => ?_, ?_⟩
  · rw [valV_put, List.count_append]
    by_cases e : y = x
    · subst e
      rw [if_pos rfl]
      show V.int _ = _
      rw [List.count_singleton_self]
      rfl
    · rw [if_neg (fun q => e (Sum.inl.inj q)), h.1 y]
      have : List.count y [x] = 0 := List.count_eq_zero.mpr (fun q => e (List.mem_singleton.mp q))
      rw [this]
      rfl
  · have := length_putK kvs (.inl x) (.int ((l.count x : Nat) + 1))
    have := h.2
    rw [List.length_append]
    show _ ≤ _ + 1
    omega
theorem open_at {hs : List Int} (h0 : 0 < hs.length) (t : Int) : ∃ x : Int, atI (hs.map V.int) (t % (((hs.map V.int).length : Nat) : Int)) = some (V.int x) ∧ decide (V.int x = V.int 1) = openI hs t := by
  have hb := Int.emod_nonneg t (b := ((hs.length : Nat) : Int)) (by omega)
  have hc := Int.emod_lt_of_pos t (b := ((hs.length : Nat) : Int)) (by omega)
  have hj : (t % ((hs.length : Nat) : Int)).toNat < hs.length := by omega
  refine ⟨hs[(t % ((hs.length : Nat) : Int)).toNat], ?_, ?_⟩
  · rw [List.length_map]
    obtain ⟨j, ej⟩ : ∃ j : Nat, t % ((hs.length : Nat) : Int) = (j : Int) := ⟨(t % ((hs.length : Nat) : Int)).toNat, by omega⟩
    have hj2 : j < hs.length := by omega
    refine (congrArg (atI (hs.map V.int)) ej).trans ((atI_nat (v := V.int hs[j]) ?_).trans ?_)
    · rw [List.getElem?_map, List.getElem?_eq_getElem hj2]
      rfl
    · congr 2
      congr 1
      omega
  · unfold openI
    rw [List.getElem?_eq_getElem hj, Bool.eq_iff_iff]
    simp
section
variable {P : Program} {w : World} {K : PySem.W.Frag} {mg : Str → Option Value} {base : Heap}
end
end KP

set_option Elab.async false
set_option maxRecDepth 100000
set_option maxHeartbeats 4000000
set_option linter.all false
/-! Ours: the soonest ask, one. -/
namespace KP
open PySem PySem.Spec PyProof.Rows L2 Gr GxR
theorem open_soon {hs : List Int} {j : Nat} (hj : j < hs.length) (h1 : hs[j] = 1) (t : Int) : ∃ s : Nat, s < hs.length ∧ openI hs (t + s) = true := by
  have h0 : 0 < hs.length := by omega
  refine ⟨((j : Int) - t).emod hs.length |>.toNat, ?_, ?_⟩
  · have := Int.emod_nonneg ((j : Int) - t) (b := ((hs.length : Nat) : Int)) (by omega)
    have := Int.emod_lt_of_pos ((j : Int) - t) (b := ((hs.length : Nat) : Int)) (by omega)
    show (((j : Int) - t) % ((hs.length : Nat) : Int)).toNat < _
    omega
  · have a := Int.emod_nonneg ((j : Int) - t) (b := ((hs.length : Nat) : Int)) (by omega)
    show openI hs (t + (((((j : Int) - t) % ((hs.length : Nat) : Int)).toNat : Nat) : Int)) = true
    rw [Int.toNat_of_nonneg a]
    unfold openI
    have e : (t + ((j : Int) - t) % ((hs.length : Nat) : Int)) % ((hs.length : Nat) : Int) = (j : Int) := by
      rw [Int.add_emod_emod, show t + ((j : Int) - t) = (j : Int) by omega]
      exact Int.emod_eq_of_lt (by omega) (by omega)
    rw [e, Int.toNat_natCast, List.getElem?_eq_getElem hj, h1]
    rfl
def cutI (ns : List Int) (lo hi : Option Int) : List Int := (ns.drop (HT.sIx ns.length 0 lo)).take (HT.sIx ns.length ns.length hi - HT.sIx ns.length 0 lo)
theorem cut_I (ns : List Int) (lo hi : Option Int) : cutV (ns.map V.int) lo hi = (cutI ns lo hi).map V.int := by
  unfold cutV cutI
  rw [List.length_map, List.map_take, List.map_drop]
theorem last_in {ns : List Int} {x : Int} (h : atI ns (-1) = some x) : x ∈ cutI ns (some (-1)) none := by
  have hl : ns ≠ [] := fun e => by rw [e] at h; cases h
  have hp : 0 < ns.length := List.length_pos_iff.mpr hl
  unfold atI ixN at h
  rw [if_neg (by omega), if_pos (by omega)] at h
  have h : ns[(-1 + ((ns.length : Nat) : Int)).toNat]? = some x := h
  have e : (-1 + ((ns.length : Nat) : Int)).toNat = ns.length - 1 := by omega
  rw [e] at h
  unfold cutI
  have es : HT.sIx ns.length 0 (some (-1)) = ns.length - 1 := by
    show (if (-1 : Int) < 0 then ((-1 : Int) + ((ns.length : Nat) : Int)).toNat else min (-1 : Int).toNat ns.length) = _
    rw [if_pos (by decide)]
    exact e
  rw [es, HT.sIx_none]
  obtain ⟨hi, hx⟩ := List.getElem?_eq_some_iff.mp h
  rw [List.drop_eq_getElem_cons hi, hx, show ns.length - (ns.length - 1) = 1 by omega]
  exact List.mem_cons_self
theorem atI_back {ns : List Int} {k x : Int} (h1 : 1 ≤ k) (h2 : k ≤ ((ns.length : Nat) : Int)) (h : atI ns (-k) = some x) : atI ns (((ns.length : Nat) : Int) - k) = some x := by
  unfold atI ixN at h ⊢
  rw [if_neg (by omega), if_pos (by omega)] at h
  rw [if_pos (by omega), if_pos (by omega)]
  have e : (-k + ((ns.length : Nat) : Int)).toNat = (((ns.length : Nat) : Int) - k).toNat := by omega
  rw [e] at h
  exact h
theorem ap_mono {ns : List Int} {t u : Int} {q : Int × Int} (h : apI ns t q = true) (l : t ≤ u) : apI ns u q = true := by
  unfold apI at h ⊢
  rw [Bool.or_eq_true] at h ⊢
  rcases h with h | h
  · exact .inl h
  · refine .inr ?_
    cases e : atI ns (-q.1) with
    | none => rw [e] at h; cases h
    | some x =>
      rw [e] at h
      have h := of_decide_eq_true h
      exact decide_eq_true (by omega)
end KP

set_option Elab.async false
set_option maxRecDepth 100000
set_option linter.all false
/-! Ours: the next ask, as the least one; rows of them. -/
namespace KP
open PySem PySem.Spec PyProof.Rows L2 Gr GxR
/-- t is behind the last of rs, from st on -/
def Past (rs : List Int) (st t : Int) : Prop := st ≤ t ∧ ∀ x, atI rs (-1) = some x → x ≤ t
structure IsNxt (ps : List (Int × Int)) (hs rs : List Int) (st t : Int) : Prop where
  past : Past rs st t
  opn : openI hs t = true
  all : ps.all (apI rs t) = true
  least : ∀ u, Past rs st u → openI hs u = true → ps.all (apI rs u) = true → t ≤ u
theorem IsNxt.one {ps : List (Int × Int)} {hs rs : List Int} {st t u : Int} (a : IsNxt ps hs rs st t) (b : IsNxt ps hs rs st u) : t = u := by
  have := a.least u b.past b.opn b.all
  have := b.least t a.past a.opn a.all
  omega
/-- each of ts is the next one behind ns and those ahead of it -/
def SRow (ps : List (Int × Int)) (hs ns : List Int) (st : Int) (ts : List Int) : Prop := ∀ (i : Nat) (h : i < ts.length), IsNxt ps hs (ns ++ ts.take i) st ts[i]
theorem SRow.nil {ps : List (Int × Int)} {hs ns : List Int} {st : Int} : SRow ps hs ns st [] := fun i h => absurd h (Nat.not_lt_zero i)
theorem SRow.snoc {ps : List (Int × Int)} {hs ns ts : List Int} {st t : Int} (h : SRow ps hs ns st ts) (n : IsNxt ps hs (ns ++ ts) st t) : SRow ps hs ns st (ts ++ [t]) := fun i hi => by
  rw [List.length_append] at hi
  have hi : i < ts.length + 1 := hi
  by_cases z : i < ts.length
  · rw [List.getElem_append_left z, List.take_append_of_le_length (by omega)]
    exact h i z
  · have e : i = ts.length := by omega
    subst e
    rw [List.getElem_append_right (Nat.le_refl _), List.take_left]
    simpa using n
theorem SRow.one {ps : List (Int × Int)} {hs ns ts us : List Int} {st : Int} (a : SRow ps hs ns st ts) (b : SRow ps hs ns st us) : ∀ i, i ≤ ts.length → i ≤ us.length → ts.take i = us.take i
  | 0, _, _ => by rw [List.take_zero, List.take_zero]
  | i + 1, h1, h2 => by
    have e := SRow.one a b i (by omega) (by omega)
    have n1 := a i (by omega)
    have n2 := b i (by omega)
    rw [e] at n1
    rw [List.take_add_one, List.take_add_one, List.getElem?_eq_getElem (by omega), List.getElem?_eq_getElem (by omega), e, n1.one n2]
theorem SRow.same {ps : List (Int × Int)} {hs ns ts us : List Int} {st : Int} (a : SRow ps hs ns st ts) (b : SRow ps hs ns st us) (h : ts.length = us.length) : ts = us := by
  have := SRow.one a b ts.length (Nat.le_refl _) (by omega)
  rw [List.take_of_length_le (Nat.le_refl _), List.take_of_length_le (by omega)] at this
  exact this
theorem SRow.take {ps : List (Int × Int)} {hs ns ts : List Int} {st : Int} (a : SRow ps hs ns st ts) (k : Nat) : SRow ps hs ns st (ts.take k) := fun i hi => by
  rw [List.length_take] at hi
  have := a i (by omega)
  rw [List.getElem_take, List.take_take, Nat.min_eq_left (by omega)]
  exact this
theorem SRow.drop {ps : List (Int × Int)} {hs ns ts : List Int} {st : Int} (a : SRow ps hs ns st ts) (k : Nat) : SRow ps hs (ns ++ ts.take k) st (ts.drop k) := fun i hi => by
  rw [List.length_drop] at hi
  have := a (k + i) (by omega)
  rw [List.getElem_drop, List.append_assoc, ← List.take_add]
  exact this
theorem last_at {ns : List Int} (h : 0 < ns.length) : atI ns (-1) = some (ns[ns.length - 1]'(by omega)) := by
  unfold atI ixN
  rw [if_neg (by omega), if_pos (by omega)]
  show ns[(-1 + ((ns.length : Nat) : Int)).toNat]? = _
  rw [show (-1 + ((ns.length : Nat) : Int)).toNat = ns.length - 1 by omega]
  exact List.getElem?_eq_getElem (by omega)
theorem last_some {ns : List Int} {x : Int} (h : atI ns (-1) = some x) : ∃ h0 : 0 < ns.length, x = ns[ns.length - 1]'(by omega) := by
  cases ns with
  | nil => cases h
  | cons n l =>
    rw [last_at (by simp)] at h
    exact ⟨by simp, (Option.some.inj h).symm⟩
theorem past_srt {ns : List Int} (hs : Srt ns) {st t : Int} (h : Past ns st t) : ∀ x ∈ ns, x ≤ t := fun x hx => by
  obtain ⟨i, hi, rfl⟩ := List.getElem_of_mem hx
  have := h.2 _ (last_at (by omega))
  have := hs i (ns.length - 1) hi (by omega) (by omega)
  omega
theorem back_at {ns : List Int} {k : Int} (h1 : 1 ≤ k) (h2 : k ≤ ((ns.length : Nat) : Int)) : atI ns (-k) = some (ns[ns.length - k.toNat]'(by omega)) := by
  unfold atI ixN
  rw [if_neg (by omega), if_pos (by omega)]
  show ns[(-k + ((ns.length : Nat) : Int)).toNat]? = _
  rw [show (-k + ((ns.length : Nat) : Int)).toNat = ns.length - k.toNat by omega]
  exact List.getElem?_eq_getElem (by omega)
/-- of two rows of one length, one sooner than the other, ask by ask: what the later one lets, the sooner one lets -/
theorem ap_sooner {rs us : List Int} {t : Int} {q : Int × Int} (h1 : 1 ≤ q.1) (hl : rs.length = us.length) (hle : ∀ (i : Nat) (h : i < rs.length), rs[i] ≤ us[i]'(hl ▸ h)) (h : apI us t q = true) : apI rs t q = true := by
  unfold apI at h ⊢
  rw [hl]
  rw [Bool.or_eq_true] at h ⊢
  rcases h with h | h
  · exact .inl h
  · by_cases z : ((us.length : Nat) : Int) < q.1
    · exact .inl (decide_eq_true z)
    · rw [back_at h1 (by omega)] at h
      rw [back_at h1 (by omega)]
      have h := of_decide_eq_true h
      have := hle (rs.length - q.1.toNat) (by omega)
      refine .inr (decide_eq_true ?_)
      have e : us[rs.length - q.1.toNat]'(by omega) = us[us.length - q.1.toNat]'(by omega) := by
        congr 1
        omega
      omega
/-- a next ask comes within some moments -/
theorem IsNxt.near {ps : List (Int × Int)} {hs rs : List Int} {st t M : Int} (n : IsNxt ps hs rs st t) (sr : Srt rs) (hp : ∀ p ∈ ps, 1 ≤ p.1 ∧ 1 ≤ p.2 ∧ p.2 ≤ 12) (h12 : hs.length ≤ 12) (ho : ∃ j : Nat, ∃ h : j < hs.length, hs[j] = 1) (h1 : st ≤ M) (h2 : ∀ x ∈ rs, x ≤ M) : t ≤ M + 24 := by
  obtain ⟨j, hj, e⟩ := ho
  obtain ⟨s, hs1, hs2⟩ := open_soon hj e (M + 12)
  have := n.least (M + 12 + (s : Int)) ⟨by omega, fun x hx => by
    obtain ⟨h0, rfl⟩ := last_some hx
    have := h2 _ (List.getElem_mem (l := rs) (n := rs.length - 1) (by omega))
    omega⟩ hs2 (List.all_eq_true.mpr fun q hq => by
    have hq := hp q hq
    unfold apI
    by_cases z : ((rs.length : Nat) : Int) < q.1
    · rw [decide_eq_true z, Bool.true_or]
    · rw [back_at hq.1 (by omega)]
      have := h2 _ (List.getElem_mem (l := rs) (n := rs.length - q.1.toNat) (by omega))
      rw [Bool.or_eq_true]
      exact .inr (decide_eq_true (by omega)))
  omega
theorem snoc_srt {ns : List Int} (h : Srt ns) {st t : Int} (p : Past ns st t) : Srt (ns ++ [t]) := fun i j hi hj hij => by
  rw [List.length_append] at hi hj
  have hj : j < ns.length + 1 := hj
  by_cases z : j < ns.length
  · rw [List.getElem_append_left (by omega), List.getElem_append_left z]
    exact h i j (by omega) z hij
  · have e : j = ns.length := by omega
    subst e
    rw [List.getElem_append_right (Nat.le_refl _)]
    simp only [Nat.sub_self, List.getElem_cons_zero]
    by_cases z2 : i < ns.length
    · rw [List.getElem_append_left z2]
      exact past_srt h p _ (List.getElem_mem z2)
    · rw [List.getElem_append_right (by omega)]
      simp only [show i - ns.length = 0 by omega, List.getElem_cons_zero]
      exact Int.le_refl _
end KP

set_option Elab.async false
set_option maxRecDepth 100000
set_option maxHeartbeats 4000000
set_option linter.all false
/-! Ours: _law_soonest, any number of asks. -/
namespace KP
open PySem PySem.Spec PyProof.Rows L2 Gr GxR
theorem cut_last {ns : List Int} (h : 0 < ns.length) : cutI ns (some (-1)) none = [ns[ns.length - 1]'(by omega)] := by
  unfold cutI
  have e : HT.sIx ns.length 0 (some (-1)) = ns.length - 1 := by
    unfold HT.sIx
    show (if (-1 : Int) < 0 then ((-1 : Int) + ((ns.length : Nat) : Int)).toNat else _) = _
    rw [if_pos (by decide)]
    omega
  rw [e, HT.sIx_none, show ns.length - (ns.length - 1) = 1 by omega]
  rw [List.drop_eq_getElem_cons (by omega)]
  rfl
theorem sql_same {K : PySem.W.Frag} {H H' : Hp} {a : Addr} {xs : List V} (s : Same H H') (h : SqL K H a xs) : SqL K H' a xs := by
  rcases h with (h | ⟨o, h⟩) | h
  · exact .inl (.inl (s _ _ h))
  · exact .inl (.inr ⟨o, s _ _ h⟩)
  · exact .inr h
theorem sqt_same {K : PySem.W.Frag} {H H' : Hp} {a : Addr} {xs : List V} (s : Same H H') (h : SqT K H a xs) : SqT K H' a xs := by
  rcases h with (h | ⟨o, h⟩) | h
  · exact .inl (.inl (s _ _ h))
  · exact .inl (.inr ⟨o, s _ _ h⟩)
  · exact .inr h
def spSoon (K : PySem.W.Frag) : Sp := fun vs H Q _ => ∃ (lv hv : V) (r : Addr) (n st : Int) (ps : List (Int × Int)) (hs ns : List Int), vs = [lv, hv, .ref r, .int n, .int st] ∧ Od H lv (.tuple ((ps.map inD).map tw)) ∧ (∀ p ∈ ps, 1 ≤ p.1 ∧ 1 ≤ p.2 ∧ p.2 ≤ 1000) ∧ Od H hv (.tuple (hs.map PyData.int)) ∧ hs.length ≤ 12 ∧ (∃ j : Nat, ∃ h : j < hs.length, hs[j] = 1) ∧ (SqL K H r (ns.map V.int) ∨ SqT K H r (ns.map V.int)) ∧ ns.length ≤ 1000 ∧ 0 ≤ n ∧ n ≤ 1000 ∧
  ∀ z ts H', Same H H' → H z = none → H' z = some (.lst (ts.map V.int)) → ts.length = n.toNat → SRow ps hs ns st ts → Q (.ref z) H'
section
variable {P : Program} {w : World} {K : PySem.W.Frag} {mg : Str → Option Value} {base : Heap}
theorem sc_soon : FnScope ["_law_pairs", "_law_clock", "_law_row", "_law_number", "_law_start", "_law_line", "_law_turn", "_law_time", "_law_pair", "_law_step"] ["_law_pairs", "_law_clock", "_law_row", "_law_number", "_law_start"] (defScope s_l_soonest) := ⟨rfl, rfl, rfl, by decide +kernel, rfl, by decide +kernel, by decide +kernel⟩
theorem ok_soon (T : D K mg) : FnOk P w K mg base CX0 2 T.f_l_soonest T.d_l_soonest ["_law_pairs", "_law_clock", "_law_row", "_law_number", "_law_start"] (spSoon K) := by
  refine T.U_l_soonest.ok sc_soon (fun vs H Q E h => ?_) (fun cdv A outer s H vs Q E hr h => ?_)
  · obtain ⟨lv, hv, r, n, st, ps, hs, ns, rfl, _⟩ := h
    rfl
  · obtain ⟨lv, hv, r, nn, st, ps, hs, ns, rfl, hL, hp, hH, h12, ⟨j1, hj1, hj2⟩, er, hn, n0, n1, k⟩ := h
    have nd := sc_soon.nd
    have mz : 5000 ≤ sizeLine := by decide
    refine ⟨_, pss_cons (ps_set (i := 5) nd rfl (.inl rfl) (pe_callTy call_list_of (by rfl) T.list (by decide +kernel) (pa_cons (pv 2) pa_nil)))
      (pss_cons (ps_for PassesOwn.never rfl (pi_range1 rfl T.range (pa_cons (pv 3) pa_nil)) (pg_name (i := 6) nd rfl (.inl rfl))
        (pss_cons (ps_set (i := 7) nd rfl (.inl rfl) (pe_callB (cr_max rfl) (by rfl) T.max (by decide +kernel) (pa_cons (pe_op op_cat (pe_lst (pa_cons (pv 4) pa_nil)) (pe_slice sl_list (pv 5) (po_some (pe_un un_neg pe_int)) po_none)) pa_nil)))
        (pss_cons (ps_for PassesOwn.never rfl (pi_tup (pv 0)) (pg_name (i := 8) nd rfl (.inl rfl))
          (pss_one (ps_if (pt_cmpR op_ge (pe_callB call_len_seq (by rfl) T.len PySem.boot_len (pa_cons (pv 5) pa_nil)) (pe_ix ix_tup (pv 8) pe_int (fun _ _ => rfl)) (nomark _))
            (pss_one (ps_set (i := 7) nd rfl (.inl rfl) (pe_callB (call_max2 rfl) (by rfl) T.max boot_max (pa_cons (pv 7) (pa_cons (pe_op op_add (pe_ix ix_list (pv 5) (pe_op op_sub (pe_callB call_len_seq (by rfl) T.len PySem.boot_len (pa_cons (pv 5) pa_nil)) (pe_ix ix_tup (pv 8) pe_int (fun _ _ => rfl))) (fun _ _ => rfl)) (pe_ix ix_tup (pv 8) pe_int (fun _ _ => rfl))) pa_nil)))))
            (pss_nil))))
        (pss_cons (ps_for PassesOwn.never rfl (pi_range1 rfl T.range (pa_cons (pe_callB call_len_seq (by rfl) T.len PySem.boot_len (pa_cons (pv 1) pa_nil)) pa_nil)) (pg_name (i := 9) nd rfl (.inl rfl))
          (pss_one (ps_if (pt_not (pt_val (pe_call (ok_lopen T) hr rfl T.g_l_open T.U_l_open.kp T.b_l_open .nil pass0 (pa_cons (pv 1) (pa_cons (pv 7) pa_nil)))))
            (pss_one (ps_set (i := 7) nd rfl (.inl rfl) (pe_op op_add (pv 7) pe_int)))
            (pss_nil))))
        (pss_one (ps_expr (pe_bm PySem.F.plainAttrs_list PySem.F.slot_list_append PySem.F.type_list_append mt_append (pv 5) (pa_cons (pv 7) pa_nil))))))))
      (pss_one (ps_ret (pe_slice sl_list (pv 5) (po_some (pe_callB call_len_seq (by rfl) T.len PySem.boot_len (pa_cons (pv 2) pa_nil))) po_none)))), ?_⟩
    obtain ⟨ha, rfl, eh⟩ := od_I hH
    obtain ⟨la, ls, rfl, el, ol⟩ := od_tup hL
    have lls : ls.length = ps.length := by rw [ol.len, List.length_map, List.length_map]
    have er' : ∀ H2, Same H H2 → (SqL K H2 r (ns.map V.int) ∨ SqT K H2 r (ns.map V.int)) := fun H2 s2 => er.elim (fun h => .inl (sql_same s2 h)) (fun h => .inr (sqt_same s2 h))
    refine ⟨_, rfl, r, _, rfl, er, fun Ln hLn => gn ?_⟩
    have s1 := same_upd (o := HO.lst (ns.map V.int)) hLn
    have e1 : upd H Ln (.lst (ns.map V.int)) Ln = some (.lst ((ns ++ []).map V.int)) := by rw [upd_same, List.append_nil]
    generalize upd H Ln (.lst (ns.map V.int)) = H1 at *
    dsimp only
    refine ⟨_, rfl, nn, rfl, by omega, by omega, for_range (lo := 0) (n := _) (fun i σ H2 => Same H H2 ∧ ∃ (ts : List Int) (v6 v7 v8 v9 : Option V), H2 Ln = some (.lst ((ns ++ ts).map V.int)) ∧ σ = [some (.ref la), some (.ref ha), some (.ref r), some (.int nn), some (.int st), some (.ref Ln), v6, v7, v8, v9] ∧ ts.length = i ∧ SRow ps hs ns st ts) ⟨s1, [], none, none, none, none, e1, rfl, rfl, SRow.nil⟩ ?_ ?_⟩
    · rintro i σ H2 hi ⟨s2, ts, v6, v7, v8, v9, e2, rfl, lts, srow⟩
      have hi1 : i < 1000 := by omega
      have hrl : (ns ++ ts).length ≤ 2000 := by rw [List.length_append]; omega
      generalize hrs : ns ++ ts = rs at *
      refine ⟨_, rfl, by show 1 ≤ sizeLine; omega, fun c1 hc1 => ?_⟩
      have sa := same_upd (o := HO.lst [V.int st]) hc1
      refine ⟨_, rfl, 1, rfl, _, rfl, ?_⟩
      refine ⟨Ln, _, rfl, SqL.of (sa _ _ e2), fun c2 hc2 => ?_⟩
      rw [cut_I]
      have sb := same_upd (o := HO.lst ((cutI rs (some (-1)) none).map V.int)) hc2
      have lc : (cutI rs (some (-1)) none).length ≤ 2000 := by
        unfold cutI
        rw [List.length_take, List.length_drop]
        omega
      refine ⟨c1, c2, _, _, rfl, rfl, sb _ _ upd_same, upd_same, by rw [List.length_map]; show 1 + _ ≤ sizeLine; omega, fun c3 hc3 => ?_⟩
      have sc := same_upd (o := HO.lst ([V.int st] ++ (cutI rs (some (-1)) none).map V.int)) hc3
      refine ⟨c3, st :: cutI rs (some (-1)) none, rfl, SqL.of upd_same, Nat.succ_pos _, fun m hm hle => gn ?_⟩
      have mpast : Past rs st m := ⟨hle st List.mem_cons_self, fun x hx => hle x (List.mem_cons_of_mem _ (last_in hx))⟩
      have mleast : ∀ u, Past rs st u → m ≤ u := fun u hu => by
        rcases List.mem_cons.mp hm with e | e
        · rw [e]; exact hu.1
        · have h0 : 0 < rs.length := by
            cases hz : rs with
            | nil => rw [hz] at e; cases e
            | cons a l => exact Nat.succ_pos _
          rw [cut_last h0] at e
          rw [List.mem_singleton.mp e]
          exact hu.2 _ (last_at h0)
      have s3 := s2.trans (sa.trans (sb.trans sc))
      have e3 := sc _ _ (sb _ _ (sa _ _ e2))
      have w3 : Same H2 (upd (upd (upd H2 c1 (.lst [V.int st])) c2 (.lst ((cutI rs (some (-1)) none).map V.int))) c3 (.lst ([V.int st] ++ (cutI rs (some (-1)) none).map V.int))) := sa.trans (sb.trans sc)
      generalize upd (upd (upd H2 c1 (.lst [V.int st])) c2 (.lst ((cutI rs (some (-1)) none).map V.int))) c3 (.lst ([V.int st] ++ (cutI rs (some (-1)) none).map V.int)) = H3 at *
      clear sa sb sc hc1 hc2 hc3 e2 hm hle
      dsimp only
      refine ⟨_, rfl, la, rfl, ⟨_, SqT.of (s3 _ _ el)⟩, for_tup (K := K) (a := la) (xs := ls) (fun mm σ H5 => H5 = H3 ∧ ∃ (t : Int) (v8 : Option V), m ≤ t ∧ (∀ j (hj : j < ps.length), j < mm → apI rs t ps[j] = true) ∧ (∀ u, Past rs st u → ps.all (apI rs u) = true → t ≤ u) ∧ σ = [some (.ref la), some (.ref ha), some (.ref r), some (.int nn), some (.int st), some (.ref Ln), some (.int (0 + (i : Int))), some (.int t), v8, v9]) ⟨rfl, m, v8, Int.le_refl _, fun _ _ h => absurd h (Nat.not_lt_zero _), fun u hu _ => mleast u hu, rfl⟩ (fun mm σ H5 _ q => by rw [q.1]; exact SqT.of (s3 _ _ el)) ?_ ?_⟩
      · rintro mm x σ H5 hx ⟨rfl, t, v8, mt, hm, ht, rfl⟩
        obtain ⟨p, b, hpm, rfl, eb⟩ := pair_at ol hx
        obtain ⟨hmp, hpe⟩ := List.getElem?_eq_some_iff.mp hpm
        have hpp := hp p (List.mem_of_getElem? hpm)
        have eb3 := s3 _ _ eb
        refine ifop ?_
        refine ⟨_, rfl, Ln, _, rfl, .inl (SqL.of e3), _, rfl, b, _, _, _, rfl, rfl, SqT.of eb3, rfl, _, _, rfl, rfl, _, rfl, ite2 (fun h => ?_) (fun h => ?_)⟩
        · have h := of_decide_eq_true h
          rw [List.length_map] at h
          obtain ⟨x, hx⟩ := atI_some (ns := rs) hpp.1 (by omega)
          have hb := atI_back hpp.1 h hx
          have hbV := atI_mapV hb
          refine ⟨_, rfl, _, rfl, _, rfl, Ln, _, rfl, .inl (SqL.of e3), _, rfl, b, _, _, _, rfl, rfl, SqT.of eb3, rfl, _, _, rfl, rfl, Ln, _, _, V.int x, rfl, rfl, SqL.of e3, by rw [List.length_map]; exact hbV, _, rfl, b, _, _, _, rfl, rfl, SqT.of eb3, rfl, _, _, rfl, rfl, _, _, rfl, gn ?_⟩
          have hap : ∀ u, x + p.2 ≤ u → apI rs u p = true := fun u hu => by
            unfold apI
            rw [hx, Bool.or_eq_true]
            exact .inr (decide_eq_true (by omega))
          have hmx : t ≤ (if x + p.2 > t then x + p.2 else t) ∧ x + p.2 ≤ (if x + p.2 > t then x + p.2 else t) := by
            split <;> omega
          refine ⟨rfl, _, _, Int.le_trans mt hmx.1, fun j hj hjm => ?_, fun u hu ha => ?_, rfl⟩
          · by_cases z : j = mm
            · subst z
              rw [hpe]
              exact hap _ hmx.2
            · exact ap_mono (hm j hj (by omega)) hmx.1
          · have h1 := ht u hu ha
            have h2 := List.all_eq_true.mp ha p (List.mem_of_getElem? hpm)
            unfold apI at h2
            rw [hx, decide_eq_false (by omega), Bool.false_or] at h2
            have h2 := of_decide_eq_true h2
            split <;> omega
        · have h : ¬ p.1 ≤ (((rs.map V.int).length : Nat) : Int) := fun q => h (decide_eq_true q)
          rw [List.length_map] at h
          refine ⟨rfl, t, _, mt, fun j hj hjm => ?_, ht, rfl⟩
          by_cases z : j = mm
          · subst z
            rw [hpe]
            unfold apI
            rw [decide_eq_true (show ((rs.length : Nat) : Int) < p.1 by omega), Bool.true_or]
          · exact hm j hj (by omega)
      · rintro σ H5 ⟨rfl, t1, v8, mt, hm, ht, rfl⟩
        have hall : ∀ u, t1 ≤ u → ps.all (apI rs u) = true := fun u hu => List.all_eq_true.mpr fun q hq => by
          obtain ⟨j, hj, rfl⟩ := List.getElem_of_mem hq
          exact ap_mono (hm j hj (by rw [lls]; exact hj)) hu
        refine ⟨_, rfl, ha, _, rfl, .inr (SqT.of (s3 _ _ eh)), _, rfl, by omega, by rw [List.length_map]; omega, for_range (lo := 0) (n := _) (fun ss σ H6 => H6 = H5 ∧ ∃ (t : Int) (v9 : Option V), t1 ≤ t ∧ (∀ u, t1 ≤ u → openI hs u = true → t ≤ u) ∧ (openI hs t = true ∨ (t = t1 + ((ss : Nat) : Int) ∧ ∀ s', s' < ss → openI hs (t1 + ((s' : Nat) : Int)) = false)) ∧ σ = [some (.ref la), some (.ref ha), some (.ref r), some (.int nn), some (.int st), some (.ref Ln), some (.int (0 + (i : Int))), some (.int t), v8, v9]) ⟨rfl, t1, v9, Int.le_refl _, fun _ h _ => h, .inr ⟨by omega, fun _ h => absurd h (Nat.not_lt_zero _)⟩, rfl⟩ ?_ ?_⟩
        · rintro ss σ H6 hss ⟨rfl, t, v9, tt, tu, ho, rfl⟩
          refine ⟨_, rfl, _, rfl, .ref ha, hs, t, rfl, hH.same s3, by omega, _, rfl, ?_⟩
          cases h : openI hs t with
          | true => exact iteF ⟨rfl, t, _, tt, tu, .inl h, rfl⟩
          | false =>
            refine iteT ⟨_, rfl, _, _, rfl, rfl, gn ⟨rfl, t + 1, _, by omega, fun u hu hou => ?_, .inr ?_, rfl⟩⟩
            · have := tu u hu hou
              by_cases z : u = t
              · rw [z, h] at hou; cases hou
              · omega
            rcases ho with ho | ⟨et, ho⟩
            · rw [h] at ho; cases ho
            · refine ⟨by omega, fun s' hs2 => ?_⟩
              by_cases z : s' = ss
              · rw [z, ← et]; exact h
              · exact ho s' (by omega)
        · rintro σ H6 ⟨rfl, t, v9, tt, tu, ho, rfl⟩
          have hopen : openI hs t = true := by
            rcases ho with ho | ⟨_, ho⟩
            · exact ho
            · obtain ⟨s0, hs0, hs1⟩ := open_soon hj1 hj2 t1
              have := ho s0 (by
                rw [List.length_map]
                show s0 < ((hs.length : Nat) : Int).toNat
                omega)
              rw [hs1] at this
              cases this
          have hn : IsNxt ps hs rs st t := ⟨⟨Int.le_trans mpast.1 (Int.le_trans mt tt), fun x hx => Int.le_trans (mpast.2 x hx) (Int.le_trans mt tt)⟩, hopen, hall t tt, fun u hu hou ha => tu u (ht u hu ha) hou⟩
          refine ⟨_, rfl, .inl ⟨rfl, _, SqL.of e3⟩, _, rfl, Ln, _, _, rfl, rfl, e3, by rw [List.length_map]; omega, ?_⟩
          refine ⟨same_into hLn s3, ts ++ [t], _, _, _, _, ?_, rfl, by rw [List.length_append, lts]; rfl, SRow.snoc srow (hrs ▸ hn)⟩
          rw [upd_same, ← List.append_assoc, hrs, List.map_append]
          rfl
    · rintro σ H2 ⟨s2, ts, v6, v7, v8, v9, e2, rfl, lts, srow⟩
      refine ⟨_, rfl, _, rfl, r, _, rfl, er' _ s2, _, rfl, ?_⟩
      dsimp only [tNoPart]
      refine ⟨Ln, _, rfl, SqL.of e2, fun z hz => ?_⟩
      have ecut : cutV ((ns ++ ts).map V.int) (some (((ns.map V.int).length : Nat) : Int)) none = ts.map V.int := by
        rw [cutV_from, List.map_append, List.drop_left]
      rw [ecut]
      refine k z ts _ (s2.trans (same_upd hz)) ?_ upd_same lts srow
      cases e : H z with
      | none => rfl
      | some o => rw [s2 _ _ e] at hz; cases hz
end
end KP

set_option Elab.async false
set_option maxRecDepth 100000
set_option maxHeartbeats 4000000
set_option linter.all false
/-! Ours: next_open, next_ask, soonest_asks. -/
namespace KP
open PySem PySem.Spec PyProof.Rows L2 Gr GxR
theorem ix_listB {X : Cx} {s : Shared} {H : Hp} {sc : Scope} {en : Env} {fp : List Addr} : IxR (X.blk s H sc en fp) (rIxL X.K) := ix_list
theorem call_len_seqB {X : Cx} {s : Shared} {H : Hp} {sc : Scope} {en : Env} {fp : List Addr} : CallR (X.blk s H sc en fp) (.builtin "len") (fun xs H Q => ∃ p ys, xs = [V.ref p] ∧ (SqL X.K H p ys ∨ SqT X.K H p ys) ∧ Q (.int (ys.length : Nat)) H) := call_len_seq
def spNOpen : Sp := fun vs H Q _ => ∃ (hv : V) (hs : List Int) (t : Int), vs = [hv, .int t] ∧ Od H hv (.tuple (hs.map PyData.int)) ∧ (∃ j : Nat, ∃ h : j < hs.length, hs[j] = 1) ∧ ∀ u, openI hs u = true → t ≤ u → (∀ v, t ≤ v → openI hs v = true → u ≤ v) → Q (.int u) H
def spNext : Sp := fun vs H Q _ => ∃ (rv : V) (r : Addr) (st : Int) (ps : List (Int × Int)) (hs rs : List Int), vs = [rv, .ref r, .int st] ∧ Od H rv (rulesP ps hs) ∧ ps.length ≤ 4 ∧ (∀ p ∈ ps, 1 ≤ p.1) ∧ (∃ j : Nat, ∃ h : j < hs.length, hs[j] = 1) ∧ H r = some (.lst (rs.map V.int)) ∧ rs.length ≤ 4000 ∧ ∀ t H', IsNxt ps hs rs st t → Same H H' → Q (.int t) H'
section
variable {P : Program} {w : World} {K : PySem.W.Frag} {mg : Str → Option Value} {base : Heap}
theorem sc_nopen : FnScope ["hours", "moment"] ["hours", "moment"] (defScope s_next_open) := ⟨rfl, rfl, rfl, by decide +kernel, rfl, by decide +kernel, by decide +kernel⟩
theorem ok_nopen (T : D K mg) : FnOk P w K mg base CX0 2 T.f_next_open T.d_next_open ["hours", "moment"] spNOpen := by
  refine T.U_next_open.ok sc_nopen (fun vs H Q E h => ?_) (fun cdv A outer s H vs Q E hr h => ?_)
  · obtain ⟨hv, hs, t, rfl, _⟩ := h
    rfl
  · obtain ⟨hv, hs, t, rfl, hH, ⟨j, hj, e1⟩, k⟩ := h
    have nd := sc_nopen.nd
    refine ⟨_, pss_cons (ps_while PassesOwn.never (pt_not (pt_val (pe_call (ok_opens T) hr rfl T.g_opens T.U_opens.kp T.b_opens .nil pass0 (pa_cons (pv 0) (pa_cons (pv 1) pa_nil)))))
        (pss_one (ps_aug (i := 1) nd rfl (.inl rfl) pe_int ip_add)))
      (pss_one (ps_ret (pv 1))), ?_⟩
    obtain ⟨s0, h1, h2⟩ := open_soon hj e1 t
    refine ⟨fun m σ H' => H' = H ∧ ∃ u : Int, σ = [some hv, some (.int u)] ∧ t ≤ u ∧ (∀ v, t ≤ v → openI hs v = true → u ≤ v) ∧ m = (t + (s0 : Int) - u).toNat, ⟨_, rfl, t, rfl, Int.le_refl _, fun v hv _ => hv, rfl⟩, ?_⟩
    rintro m σ H' ⟨rfl, u, rfl, tu, lu, rfl⟩
    refine ⟨_, rfl, _, rfl, hv, hs, u, rfl, hH, by omega, _, rfl, ?_⟩
    cases ho : openI hs u with
    | true => exact ⟨_, rfl, k u ho tu lu⟩
    | false =>
      have hlt : u < t + (s0 : Int) := by
        have := lu _ (by omega) h2
        by_cases z : u = t + (s0 : Int)
        · rw [z, h2] at ho; cases ho
        · omega
      refine ⟨fun σ' H2 => H2 = H' ∧ ∃ v : Int, σ' = [some hv, some (.int v)] ∧ t ≤ v ∧ (∀ x, t ≤ x → openI hs x = true → v ≤ x) ∧ v = u + 1, ?_, ?_⟩
      · rintro σ' H2 ⟨rfl, v, rfl, tv, lv, rfl⟩
        exact ⟨_, by omega, rfl, u + 1, rfl, tv, lv, rfl⟩
      · refine ⟨_, rfl, _, _, rfl, rfl, rfl, u + 1, rfl, by omega, fun x hx hox => ?_, rfl⟩
        have := lu x hx hox
        by_cases z : x = u
        · rw [z, ho] at hox; cases hox
        · omega
theorem sc_next : FnScope ["rules", "asks", "since", "limits", "hours", "bounds", "most", "wide"] ["rules", "asks", "since"] (defScope s_next_ask) := ⟨rfl, rfl, rfl, by decide +kernel, rfl, by decide +kernel, by decide +kernel⟩
theorem ok_next (T : D K mg) : FnOk P w K mg base CX0 3 T.f_next_ask T.d_next_ask ["rules", "asks", "since"] spNext := by
  refine T.U_next_ask.ok sc_next (fun vs H Q E h => ?_) (fun cdv A outer s H vs Q E hr h => ?_)
  · obtain ⟨rv, r, st, ps, hs, rs, rfl, _⟩ := h
    rfl
  · obtain ⟨rv, r, st, ps, hs, rs, rfl, hR, hl4, hp, ho, er, hrl, k⟩ := h
    have nd := sc_next.nd
    have mz : 5000 ≤ sizeLine := by decide
    refine ⟨_, pss_cons (ps_asg (pv 0) (pg_tup rfl (pgs_cons (pg_name (i := 3) nd rfl (.inl rfl)) (pgs_cons (pg_name (i := 4) nd rfl (.inl rfl)) pgs_nil))))
      (pss_cons (ps_setLc (i := 5) (own := [("most", 6), ("wide", 7)]) (g := gTup _ 2 (gCons (gName 6) (gCons (gName 7) gNil))) rfl nd rfl rfl (sw_true rfl rfl rfl (by decide +kernel)) (pi_tup (pv 3)) (blkOk_by (N := ["rules", "asks", "since", "limits", "hours", "bounds", "most", "wide"]) (sc := defScope s_next_ask) (by decide +kernel)) (fun _ _ _ _ _ => pg_tup rfl (pgs_cons (pg_name (i := 6) nd rfl (.inl rfl)) (pgs_cons (pg_name (i := 7) nd rfl (.inl rfl)) pgs_nil))) (fun _ _ _ _ _ => (pts_one (pt_cmpR op_ge (pe_callB call_len_seqB (by rfl) T.len PySem.boot_len (pa_cons (pv 1) pa_nil)) (pv 6) (nomark _)))) (fun _ _ _ _ _ => pe_op op_add (pe_ix ix_listB (pv 1) (pe_un un_neg (pv 6)) (fun _ _ => rfl)) (pv 7)))
      (pss_one (ps_ret (pe_call (ok_nopen T) hr rfl T.g_next_open T.U_next_open.kp T.b_next_open .nil pass0 (pa_cons (pv 4) (pa_cons (pe_callB (cr_max rfl) (by rfl) T.max (by decide +kernel) (pa_cons (pe_op op_cat (pe_op op_cat (pv 5) (pe_callTy call_list_of (by rfl) T.list (by decide +kernel) (pa_cons (pe_slice sl_list (pv 1) (po_some (pe_un un_neg pe_int)) po_none) pa_nil))) (pe_lst (pa_cons (pv 2) pa_nil))) pa_nil)) pa_nil)))))), ?_⟩
    obtain ⟨ra, rxs, rfl, era, ora⟩ := od_tup hR
    match rxs, ora with
    | [lv, hv], .cons oL (.cons oH .nil) =>
    refine ⟨_, rfl, ra, _, rfl, SqT.of era, rfl, _, _, rfl, _, _, rfl, rfl, ?_⟩
    obtain ⟨la, ls, rfl, el, ol⟩ := od_tup oL
    have lls : ls.length = ps.length := by rw [ol.len, List.length_map, List.length_map]
    refine ⟨_, rfl, la, rfl, ⟨_, SqT.of el⟩, fun D hD => lc_tup (K := K) (a := la) (xs := ls) (fun i Hx => Same H Hx ∧ ∃ bs : List Int, Hx D = some (.lst (bs.map V.int)) ∧ bs.length ≤ i ∧ (∀ b ∈ bs, ∀ u, ps.all (apI rs u) = true → b ≤ u) ∧ (∀ j (hj : j < ps.length), j < i → ∀ u, (∀ b ∈ bs, b ≤ u) → apI rs u ps[j] = true)) ⟨same_upd hD, [], upd_same, Nat.le_refl _, (fun _ h => nomatch h), fun _ _ h => absurd h (Nat.not_lt_zero _)⟩ (fun i Hx _ q => SqT.of (q.1 _ _ el)) ?_ ?_⟩
    · rintro i x Hx hx ⟨sx, bs, eb, lb, b1, b2⟩
      obtain ⟨q, b, hpm, rfl, eb'⟩ := pair_at ol hx
      obtain ⟨hmp, hpe⟩ := List.getElem?_eq_some_iff.mp hpm
      have hpp := hp q (List.mem_of_getElem? hpm)
      have nDr := ne_of_none er hD
      refine ⟨b, _, rfl, SqT.of (sx _ _ eb'), rfl, _, _, rfl, _, _, rfl, rfl, rfl, ?_⟩
      refine ⟨_, rfl, r, _, rfl, .inl (SqL.of (sx _ _ er)), _, rfl, _, _, rfl, rfl, _, rfl, ?_⟩
      rw [List.length_map]
      refine ite2 (fun h => ?_) (fun h => ?_)
      · have h := of_decide_eq_true h
        obtain ⟨x, hxx⟩ := atI_some (ns := rs) hpp (by omega)
        refine ⟨_, rfl, _, rfl, _, rfl, r, _, _, V.int x, rfl, rfl, SqL.of (sx _ _ er), atI_mapV hxx, _, rfl, _, _, rfl, rfl, _, eb, by rw [List.length_map]; omega, same_into hD sx, bs ++ [x + q.2], by rw [upd_same, List.map_append]; rfl, by rw [List.length_append]; show _ + 1 ≤ _; omega, fun c hc u hu => ?_, fun j hj hji u hu => ?_⟩
        · rcases List.mem_append.mp hc with h1 | h1
          · exact b1 c h1 u hu
          · rw [List.mem_singleton.mp h1]
            have h2 := List.all_eq_true.mp hu q (List.mem_of_getElem? hpm)
            unfold apI at h2
            rw [hxx, decide_eq_false (by omega), Bool.false_or] at h2
            have h2 := of_decide_eq_true h2
            omega
        · by_cases z : j = i
          · subst z
            rw [hpe]
            have := hu (x + q.2) (List.mem_append_right _ (List.mem_singleton.mpr rfl))
            unfold apI
            rw [hxx, Bool.or_eq_true]
            exact .inr (decide_eq_true (by omega))
          · exact b2 j hj (by omega) u fun c hc => hu c (List.mem_append_left _ hc)
      · have h : ¬ q.1 ≤ ((rs.length : Nat) : Int) := fun z => h (decide_eq_true z)
        refine ⟨sx, bs, eb, by omega, b1, fun j hj hji u hu => ?_⟩
        by_cases z : j = i
        · subst z
          rw [hpe]
          unfold apI
          rw [decide_eq_true (show ((rs.length : Nat) : Int) < q.1 by omega), Bool.true_or]
        · exact b2 j hj (by omega) u hu
    · rintro Hx ⟨sx, bs, eb, lb, b1, b2⟩
      rw [lls] at lb b2
      refine gn ?_
      have erx := sx _ _ er
      refine ⟨_, rfl, _, rfl, _, rfl, 1, rfl, _, rfl, ?_⟩
      dsimp only [tNoPart]
      refine ⟨r, _, rfl, SqL.of erx, fun c1 hc1 => ?_⟩
      rw [cut_I]
      have lc : (cutI rs (some (-1)) none).length ≤ 4000 := by
        unfold cutI
        rw [List.length_take, List.length_drop]
        omega
      have sa := same_upd (o := HO.lst ((cutI rs (some (-1)) none).map V.int)) hc1
      refine ⟨c1, _, rfl, .inl (SqL.of upd_same), fun c2 hc2 => ?_⟩
      have sb := same_upd (o := HO.lst ((cutI rs (some (-1)) none).map V.int)) hc2
      refine ⟨D, c2, _, _, rfl, rfl, sb _ _ (sa _ _ eb), upd_same, by rw [List.length_map, List.length_map]; omega, fun c3 hc3 => ?_⟩
      have sc := same_upd (o := HO.lst (bs.map V.int ++ (cutI rs (some (-1)) none).map V.int)) hc3
      refine ⟨_, rfl, by show 1 ≤ sizeLine; omega, fun c4 hc4 => ?_⟩
      have sd := same_upd (o := HO.lst [V.int st]) hc4
      refine ⟨c3, c4, _, _, rfl, rfl, sd _ _ upd_same, upd_same, by rw [List.length_append, List.length_map, List.length_map]; show _ + 1 ≤ sizeLine; omega, fun c5 hc5 => ?_⟩
      have se := same_upd (o := HO.lst (bs.map V.int ++ (cutI rs (some (-1)) none).map V.int ++ [V.int st])) hc5
      refine ⟨c5, bs ++ cutI rs (some (-1)) none ++ [st], rfl, SqL.of (by rw [upd_same, List.map_append, List.map_append]; rfl), by rw [List.length_append]; exact Nat.succ_pos _, fun m hm hle => ?_⟩
      have s5 := sx.trans (sa.trans (sb.trans (sc.trans (sd.trans se))))
      refine ⟨hv, hs, m, rfl, oH.same s5, ho, fun u hu mu lu => k u _ ⟨⟨?_, fun x hx => ?_⟩, hu, ?_, fun v pv ov av => lu v ?_ ov⟩ s5⟩
      · have := hle st (List.mem_append_right _ (List.mem_singleton.mpr rfl))
        omega
      · have := hle x (List.mem_append_left _ (List.mem_append_right _ (last_in hx)))
        omega
      · refine List.all_eq_true.mpr fun q hq => ?_
        obtain ⟨j, hj, rfl⟩ := List.getElem_of_mem hq
        exact b2 j hj hj u fun c hc => by
          have := hle c (List.mem_append_left _ (List.mem_append_left _ hc))
          omega
      · rcases List.mem_append.mp hm with h | h
        · rcases List.mem_append.mp h with h | h
          · exact b1 m h v av
          · have h0 : 0 < rs.length := by
              cases hz : rs with
              | nil => rw [hz] at h; cases h
              | cons a l => exact Nat.succ_pos _
            rw [cut_last h0] at h
            rw [List.mem_singleton.mp h]
            exact pv.2 _ (last_at h0)
        · rw [List.mem_singleton.mp h]
          exact pv.1
def spSoonA (K : PySem.W.Frag) : Sp := fun vs H Q _ => ∃ (rv : V) (r : Addr) (n st : Int) (ps : List (Int × Int)) (hs ns : List Int), vs = [rv, .ref r, .int n, .int st] ∧ Od H rv (rulesP ps hs) ∧ ps.length ≤ 4 ∧ (∀ p ∈ ps, 1 ≤ p.1) ∧ (∃ j : Nat, ∃ h : j < hs.length, hs[j] = 1) ∧ (SqL K H r (ns.map V.int) ∨ SqT K H r (ns.map V.int)) ∧ ns.length ≤ 1000 ∧ 0 ≤ n ∧ n ≤ 1000 ∧
  ∀ z ts H', Same H H' → H' z = some (.lst (ts.map V.int)) → ts.length = n.toNat → SRow ps hs ns st ts → Q (.ref z) H'
end
end KP

set_option Elab.async false
set_option maxRecDepth 100000
set_option maxHeartbeats 4000000
set_option linter.all false
/-! Ours: the law's draws: the well, a pick, one of some things, one sign of a text. -/
namespace KP
open PySem PySem.Spec PyProof.Rows L2 Gr GxR
/-- a well stands at p -/
def Well (H : Hp) (p : Addr) : Prop := ∃ d m c : Int, H p = some (.lst [.int d, .int m, .int c])
/-- all is as it was but what stands at p -/
def But (H H' : Hp) (p : Addr) : Prop := ∀ b o, H b = some o → b ≠ p → H' b = some o
theorem But.trans {H H1 H2 : Hp} {p : Addr} (a : But H H1 p) (b : But H1 H2 p) : But H H2 p := fun c o h n => b c o (a c o h n) n
theorem But.refl (H : Hp) (p : Addr) : But H H p := fun _ _ h _ => h

def spPick : Sp := fun vs H Q _ => ∃ (p : Addr) (t : Int), vs = [.ref p, .int t] ∧ Well H p ∧ 0 < t ∧ t < 1073741824 ∧
  ∀ (r : Int) (H' : Hp), 0 ≤ r → r < t → Well H' p → But H H' p → Q (.int r) H'

section
variable {P : Program} {w : World} {K : PySem.W.Frag} {mg : Str → Option Value} {base : Heap}
theorem scP : FnScope ["_law_well_here", "_law_top", "_law_digit"] ["_law_well_here", "_law_top"] (defScope s_l_pick) := ⟨rfl, rfl, rfl, by decide +kernel, rfl, by decide +kernel, by decide +kernel⟩
theorem ok_l_pick (T : D K mg) : FnOk P w K mg base CX0 1 T.f_l_pick T.d_l_pick ["_law_well_here", "_law_top"] spPick := by
  refine T.U_l_pick.ok scP (fun vs H Q E h => ?_) (fun cdv A outer s H vs Q E hr h => ?_)
  · obtain ⟨p, t, rfl, _⟩ := h
    rfl
  · obtain ⟨p, t, rfl, ⟨d, m, c, hp⟩, ht, ht2, k⟩ := h
    refine ⟨_, pss_cons (ps_if (pt_cmpR op_gt (pe_ix ix_list (pv 0) pe_int (fun _ _ => rfl)) pe_int (nomark _))
        (pss_cons (ps_asg (pe_callB call_divmod (by rfl) T.divmod boot_divmod (pa_cons (pe_ix ix_list (pv 0) pe_int (fun _ _ => rfl)) (pa_cons (pv 1) pa_nil)))
          (pg_tup rfl (pgs_cons (pg_sub (pv 0) pe_int set_list) (pgs_cons (pg_name (i := 2) scP.nd rfl (.inl rfl)) pgs_nil))))
        (pss_one (ps_ret (pv 2)))) pss_nil)
      (pss_cons (ps_asg (pe_op op_add (pe_ix ix_list (pv 0) pe_int (fun _ _ => rfl)) pe_int) (pg_sub (pv 0) pe_int set_list))
      (pss_cons (ps_asg (pe_op op_mod (pe_callTy call_int1 (by rfl) T.int PyProof.Rows.boot_int (pa_cons (pe_op op_add (pe_op op_mul (pe_ix ix_list (pv 0) pe_int (fun _ _ => rfl)) pe_int)
          (pe_op op_mul pe_int (pe_ix ix_list (pv 0) pe_int (fun _ _ => rfl)))) pa_nil)) pe_int) (pg_sub (pv 0) pe_int set_list))
      (pss_one (ps_ret (pe_op op_mod (pe_callTy call_int1 (by rfl) T.int PyProof.Rows.boot_int (pa_cons (pe_op op_fdiv (pe_ix ix_list (pv 0) pe_int (fun _ _ => rfl)) pe_int) pa_nil)) (pv 1)))))), ?_⟩
    have a0 : ∀ x y z : V, atI [x, y, z] (0 : Int) = some x := fun _ _ _ => rfl
    have a1 : ∀ x y z : V, atI [x, y, z] (1 : Int) = some y := fun _ _ _ => rfl
    have a2 : ∀ x y z : V, atI [x, y, z] (2 : Int) = some z := fun _ _ _ => rfl
    refine ⟨_, rfl, p, _, 0, _, rfl, rfl, SqL.of hp, a0 _ _ _, d, 0, rfl, rfl, _, rfl, ?_⟩
    refine ite2 (fun hd => ?_) (fun hd => ?_)
    · refine ⟨_, rfl, p, _, 0, _, rfl, rfl, SqL.of hp, a0 _ _ _, _, rfl, d, t, rfl, ⟨ht, ht2⟩, fun q hq => ?_⟩
      have nq : p ≠ q := ne_of_none hp hq
      refine ⟨q, _, rfl, .inl (.inl upd_same), rfl, _, _, rfl, ?_⟩
      refine ⟨_, rfl, p, _, 0, 0, rfl, rfl, (by rw [upd_ne nq]; exact hp), rfl, ?_⟩
      refine ⟨_, _, rfl, rfl, ?_⟩
      refine ⟨_, rfl, k (d % t) _ (Int.emod_nonneg _ (by omega)) (Int.emod_lt_of_pos _ ht) ⟨d / t, m, c, upd_same⟩ fun b o e n => ?_⟩
      rw [upd_ne n, upd_ne (ne_of_none e hq)]
      exact e
    · refine ⟨_, rfl, p, _, 2, _, rfl, rfl, SqL.of hp, a2 _ _ _, c, 1, rfl, rfl, _, rfl, p, _, 2, 2, rfl, rfl, hp, rfl, ?_⟩
      refine ⟨_, rfl, p, _, 1, _, rfl, rfl, SqL.of upd_same, a1 _ _ _, m, 48271, rfl, rfl, .inr (by decide), _, rfl, p, _, 2, _, rfl, rfl, SqL.of upd_same, a2 _ _ _, 1013, c + 1, rfl, rfl, .inl (by decide), _, _, rfl, rfl, .inl ⟨_, rfl, _, _, rfl, rfl, (by show (0 : Int) < 2038074743; decide), ?_⟩⟩
      refine ⟨_, rfl, p, _, 1, 1, rfl, rfl, upd_same, rfl, ?_⟩
      refine ⟨_, rfl, p, _, 1, _, rfl, rfl, SqL.of upd_same, a1 _ _ _, _, 23, rfl, rfl, ⟨by decide, by decide⟩, .inl ⟨_, rfl, _, rfl, _, t, rfl, rfl, ht, ?_⟩⟩
      refine k _ _ (Int.emod_nonneg _ (by omega)) (Int.emod_lt_of_pos _ ht) ⟨_, _, _, upd_same⟩ fun b o e n => ?_
      rw [upd_ne n, upd_ne n]
      exact e
end
def spOne : Sp := fun vs H Q _ => ∃ (p q : Addr) (xs : List V), vs = [.ref p, .ref q] ∧ Well H p ∧ H q = some (.lst xs) ∧ q ≠ p ∧ 0 < xs.length ∧ xs.length ≤ 1000 ∧
  ∀ (i : Nat) (v : V) (H' : Hp), xs[i]? = some v → Well H' p → But H H' p → Q v H'
def spWell (K : PySem.W.Frag) : Sp := fun vs H Q _ => ∃ (a : Addr) (ns : List Int) (t : Int), vs = [.ref a, .int t] ∧ SqL K H a (ns.map V.int) ∧ 0 ≤ t ∧ ns.length ≤ 1000 ∧
  ∀ (q : Addr) (H' : Hp), H q = none → Well H' q → Same H H' → Q (.ref q) H'

section
variable {P : Program} {w : World} {K : PySem.W.Frag} {mg : Str → Option Value} {base : Heap}
theorem scO : FnScope ["_law_well_here", "_law_some"] ["_law_well_here", "_law_some"] (defScope s_l_one) := ⟨rfl, rfl, rfl, by decide +kernel, rfl, by decide +kernel, by decide +kernel⟩
theorem ok_l_one (T : D K mg) :
    FnOk P w K mg base CX0 2 T.f_l_one T.d_l_one ["_law_well_here", "_law_some"] spOne := by
  refine T.U_l_one.ok scO (fun vs H Q E h => ?_) (fun cdv A outer s H vs Q E hr h => ?_)
  · obtain ⟨p, q, xs, rfl, _⟩ := h
    rfl
  · obtain ⟨p, q, xs, rfl, hp, hq, nq, h0, h1, k⟩ := h
    refine ⟨_, pss_one (ps_ret (pe_ix ix_list (pv 1) (pe_call (ok_l_pick T) hr rfl T.g_l_pick T.U_l_pick.kp T.b_l_pick .nil pass0 (pa_cons (pv 0) (pa_cons (pe_callB call_len_seq (by rfl) T.len PySem.boot_len (pa_cons (pv 1) pa_nil)) pa_nil))) (fun _ _ => rfl))), ?_⟩
    refine ⟨_, rfl, _, rfl, _, rfl, q, xs, rfl, .inl (SqL.of hq), p, (xs.length : Int), rfl, hp, by omega, by omega, fun r H' r0 r1 hw hb => ?_⟩
    have hlt : r.toNat < xs.length := by omega
    have e : atI xs r = some (xs[r.toNat]) := by
      have := atI_nat (xs := xs) (j := r.toNat) (List.getElem?_eq_getElem hlt)
      rw [Int.toNat_of_nonneg r0] at this
      exact this
    exact ⟨q, xs, r, _, rfl, rfl, SqL.of (hb _ _ hq nq), e, k r.toNat _ H' (List.getElem?_eq_getElem hlt) hw hb⟩

theorem scW : FnScope ["_law_script", "_law_turn", "_law_mixed", "_law_each", "_law_cell", "_law_digits"] ["_law_script", "_law_turn"] (defScope s_l_well) := ⟨rfl, rfl, rfl, by decide +kernel, rfl, by decide +kernel, by decide +kernel⟩
theorem ok_l_well (T : D K mg) : FnOk P w K mg base CX0 1 T.f_l_well T.d_l_well ["_law_script", "_law_turn"] (spWell K) := by
  refine T.U_l_well.ok scW (fun vs H Q E h => ?_) (fun cdv A outer s H vs Q E hr h => ?_)
  · obtain ⟨a, ns, t, rfl, _⟩ := h
    rfl
  · obtain ⟨a, ns, t, rfl, hS, h0, hl, k⟩ := h
    refine ⟨_, pss_cons (ps_set (i := 2) scW.nd rfl (.inl rfl) (pe_op op_add pe_int (pe_op op_mul pe_int (pv 1))))
      (pss_cons (ps_for PassesOwn.never rfl (pi_list (pe_slice sl_list (pv 0) po_none (po_some pe_int))) (pg_name (i := 3) scW.nd rfl (.inl rfl))
        (pss_one (ps_set (i := 2) scW.nd rfl (.inl rfl) (pe_op op_mod (pe_callTy call_int1 (by rfl) T.int PyProof.Rows.boot_int (pa_cons
          (pe_op op_add (pe_op op_add (pe_op op_mul (pv 2) pe_int) (pe_op op_mul (pe_op op_mod (pe_callTy call_int1 (by rfl) T.int PyProof.Rows.boot_int (pa_cons (pv 3) pa_nil)) pe_int) pe_int)) pe_int) pa_nil)) pe_int))))
      (pss_cons (ps_set (i := 4) scW.nd rfl (.inl rfl) (pe_ifExp (pt_cmpR op_lt (pv 1) (pe_callB call_len_seq (by rfl) T.len PySem.boot_len (pa_cons (pv 0) pa_nil)) (nomark _))
        (pe_callTy call_int1 (by rfl) T.int PyProof.Rows.boot_int (pa_cons (pe_ix ix_list (pv 0) (pv 1) (fun _ _ => rfl)) pa_nil)) (pv 2)))
      (pss_cons (ps_set (i := 5) scW.nd rfl (.inl rfl) (pe_ifExp (pt_cmpR op_ge (pe_callB call_abs (by rfl) T.abs PyProof.Rows.boot_abs (pa_cons (pv 4) pa_nil)) (pe_op op_pow pe_int pe_int) (nomark _))
        (pe_callB call_abs (by rfl) T.abs PyProof.Rows.boot_abs (pa_cons (pv 4) pa_nil)) pe_int))
      (pss_cons (ps_set (i := 2) scW.nd rfl (.inl rfl) (pe_op op_mod (pe_callTy call_int1 (by rfl) T.int PyProof.Rows.boot_int (pa_cons
          (pe_op op_add (pe_op op_add (pe_op op_mul (pv 2) pe_int) (pe_op op_mul (pe_op op_mod (pe_callTy call_int1 (by rfl) T.int PyProof.Rows.boot_int (pa_cons (pv 4) pa_nil)) pe_int) pe_int)) pe_int) pa_nil)) pe_int))
      (pss_one (ps_ret (pe_lst (pa_cons (pv 5) (pa_cons (pv 2) (pa_cons pe_int pa_nil)))))))))), ?_⟩
    refine ⟨_, rfl, 5003, t, rfl, rfl, .inl (by decide), _, _, rfl, rfl, ?_⟩
    refine ⟨_, rfl, 9, rfl, a, _, rfl, hS, fun p0 hp0 => ?_⟩
    have s0 : Same H (upd H p0 (.lst (cutV (ns.map V.int) none (some 9)))) := fun b o e => by
      rw [upd_ne (ne_of_none e hp0)]
      exact e
    have cutInt : ∀ (i : Nat) (y : V), (cutV (ns.map V.int) none (some 9))[i]? = some y → ∃ z, y = V.int z := fun i y hy => by
      have hm := List.mem_of_mem_drop (List.mem_of_mem_take (List.mem_of_getElem? hy))
      obtain ⟨z, _, e⟩ := List.mem_map.mp hm
      exact ⟨z, e.symm⟩
    refine ⟨p0, rfl, ⟨_, SqL.of upd_same⟩, for_list (K := K) (a := p0) (xs := cutV (ns.map V.int) none (some 9))
      (fun i σ H2 => ∃ (m : Int) (v : Option V), σ = [some (.ref a), some (.int t), some (.int m), v, none, none] ∧ H2 = upd H p0 (.lst (cutV (ns.map V.int) none (some 9))))
      ⟨_, none, rfl, rfl⟩ (fun i σ H2 _ ⟨_, _, _, e⟩ => by rw [e]; exact SqL.of upd_same) ?_ ?_⟩
    · rintro i y σ H2 hi ⟨m, v, rfl, rfl⟩
      obtain ⟨z, rfl⟩ := cutInt i y hi
      have hP : (0 : Int) < 2038074743 := by decide
      exact ⟨_, rfl, m, 30011, rfl, rfl, .inr (by decide), _, rfl, .inl ⟨z, rfl, z, 2038074743, rfl, rfl, hP, _, 7001, rfl, rfl, .inr (by decide), _, _, rfl, rfl, _, 13, rfl, rfl,
        .inl ⟨_, rfl, _, 2038074743, rfl, rfl, hP, _, _, rfl, rfl⟩⟩⟩
    · rintro σ H2 ⟨m, v, rfl, rfl⟩
      have hP : (0 : Int) < 2038074743 := by decide
      refine ⟨_, rfl, _, rfl, a, _, rfl, .inl (s0.seq hS), t, _, rfl, rfl, _, rfl, ?_⟩
      refine ite2 (fun hlt => ?_) (fun _ => ?_)
      · have hlt' : t < ((ns.map V.int).length : Int) := of_decide_eq_true hlt
        rw [List.length_map] at hlt'
        have hj : t.toNat < (ns.map V.int).length := by
          rw [List.length_map]
          omega
        have e : atI (ns.map V.int) t = some (.int (ns[t.toNat]'(by omega))) := by
          have q := atI_nat (xs := ns.map V.int) (j := t.toNat) (List.getElem?_eq_getElem hj)
          rw [Int.toNat_of_nonneg h0, List.getElem_map] at q
          exact q
        refine ⟨_, rfl, _, rfl, a, _, t, _, rfl, rfl, s0.seq hS, e, .inl ⟨_, rfl, ?_⟩⟩
        refine ⟨_, rfl, _, rfl, 10, 18, rfl, rfl, ⟨by decide, by decide, by decide⟩, _, _, rfl, rfl, _, rfl, ?_⟩
        refine ite2 (fun _ => ?_) (fun _ => ?_)
        · refine ⟨_, rfl, _, rfl, ?_⟩
          exact ⟨_, rfl, _, 16807, rfl, rfl, .inr (by decide), _, rfl, .inl ⟨_, rfl, _, 2038074743, rfl, rfl, hP, _, 39373, rfl, rfl, .inr (by decide), _, _, rfl, rfl, _, 29, rfl, rfl,
            .inl ⟨_, rfl, _, 2038074743, rfl, rfl, hP, _, rfl, _, rfl, by show 3 ≤ sizeLine; decide, fun p1 hp1 => k p1 _ (s0.free hp1) ⟨_, _, _, upd_same⟩ (s0.trans fun b o e => by rw [upd_ne (ne_of_none e hp1)]; exact e)⟩⟩⟩
        · exact ⟨_, rfl, _, 16807, rfl, rfl, .inr (by decide), _, rfl, .inl ⟨_, rfl, _, 2038074743, rfl, rfl, hP, _, 39373, rfl, rfl, .inr (by decide), _, _, rfl, rfl, _, 29, rfl, rfl,
            .inl ⟨_, rfl, _, 2038074743, rfl, rfl, hP, _, rfl, _, rfl, by show 3 ≤ sizeLine; decide, fun p1 hp1 => k p1 _ (s0.free hp1) ⟨_, _, _, upd_same⟩ (s0.trans fun b o e => by rw [upd_ne (ne_of_none e hp1)]; exact e)⟩⟩⟩
      · refine ⟨_, rfl, ?_⟩
        refine ⟨_, rfl, _, rfl, 10, 18, rfl, rfl, ⟨by decide, by decide, by decide⟩, _, _, rfl, rfl, _, rfl, ?_⟩
        refine ite2 (fun _ => ?_) (fun _ => ?_)
        · refine ⟨_, rfl, _, rfl, ?_⟩
          exact ⟨_, rfl, _, 16807, rfl, rfl, .inr (by decide), _, rfl, .inl ⟨_, rfl, _, 2038074743, rfl, rfl, hP, _, 39373, rfl, rfl, .inr (by decide), _, _, rfl, rfl, _, 29, rfl, rfl,
            .inl ⟨_, rfl, _, 2038074743, rfl, rfl, hP, _, rfl, _, rfl, by show 3 ≤ sizeLine; decide, fun p1 hp1 => k p1 _ (s0.free hp1) ⟨_, _, _, upd_same⟩ (s0.trans fun b o e => by rw [upd_ne (ne_of_none e hp1)]; exact e)⟩⟩⟩
        · exact ⟨_, rfl, _, 16807, rfl, rfl, .inr (by decide), _, rfl, .inl ⟨_, rfl, _, 2038074743, rfl, rfl, hP, _, 39373, rfl, rfl, .inr (by decide), _, _, rfl, rfl, _, 29, rfl, rfl,
            .inl ⟨_, rfl, _, 2038074743, rfl, rfl, hP, _, rfl, _, rfl, by show 3 ≤ sizeLine; decide, fun p1 hp1 => k p1 _ (s0.free hp1) ⟨_, _, _, upd_same⟩ (s0.trans fun b o e => by rw [upd_ne (ne_of_none e hp1)]; exact e)⟩⟩⟩
end

/-- one sign of a text -/
def spOneS : Sp := fun vs H Q _ => ∃ (p : Addr) (z : Str), vs = [.ref p, .str z] ∧ Well H p ∧ 0 < z.length ∧ z.length ≤ 1000 ∧
  ∀ (c : Nat) (H' : Hp), c ∈ z.cps.toList → Well H' p → But H H' p → Q (.str ⟨#[c]⟩) H'
section
variable {P : Program} {w : World} {K : PySem.W.Frag} {mg : Str → Option Value} {base : Heap}
theorem ok_l_oneS (T : D K mg) : FnOk P w K mg base CX0 2 T.f_l_one T.d_l_one ["_law_well_here", "_law_some"] spOneS := by
  refine T.U_l_one.ok scO (fun vs H Q E h => ?_) (fun cdv A outer s H vs Q E hr h => ?_)
  · obtain ⟨p, z, rfl, _⟩ := h
    rfl
  · obtain ⟨p, z, rfl, hp, h0, h1, k⟩ := h
    refine ⟨_, pss_one (ps_ret (pe_ix ix_str (pv 1) (pe_call (ok_l_pick T) hr rfl T.g_l_pick T.U_l_pick.kp T.b_l_pick .nil pass0 (pa_cons (pv 0) (pa_cons (pe_callB call_len_str (by rfl) T.len PySem.boot_len (pa_cons (pv 1) pa_nil)) pa_nil))) (fun _ _ => rfl))), ?_⟩
    refine ⟨_, rfl, _, rfl, _, rfl, z, rfl, Nat.le_trans h1 (by decide), ?_⟩
    refine ⟨p, _, rfl, hp, by omega, by omega, fun r H' r0 r1 hw hb => ?_⟩
    have hlt : r.toNat < z.cps.toList.length := by
      have e : z.cps.toList.length = z.length := rfl
      omega
    have e : atI z.cps.toList r = some (z.cps.toList[r.toNat]) := by
      have := atI_nat (xs := z.cps.toList) (j := r.toNat) (List.getElem?_eq_getElem hlt)
      rw [Int.toNat_of_nonneg r0] at this
      exact this
    exact ⟨z, r, _, rfl, rfl, Nat.le_trans h1 (by decide), e, k _ H' (List.getElem_mem hlt) hw hb⟩
end
end KP

set_option Elab.async false
set_option maxRecDepth 100000
set_option maxHeartbeats 4000000
set_option linter.all false
/-! Ours: drawn limits and hours. -/
namespace KP
open PySem PySem.Spec PyProof.Rows L2 Gr GxR
/-- a value drawn from the well at p -/
def Drawn (H : Hp) (p : Addr) (R : PyData → Prop) (Q : VK) : Prop := ∀ v d H', But H H' p → Well H' p → Od (hide H' [p]) v d → R d → Q v H'
theorem well_ne {H : Hp} {p q : Addr} (w : Well H p) (h : H q = none) : q ≠ p := fun z => by
  obtain ⟨_, _, _, e⟩ := w
  rw [z, e] at h
  cases h
theorem Well.same {H H1 : Hp} {p : Addr} (w : Well H p) (s : Same H H1) : Well H1 p := let ⟨a, b, c, e⟩ := w; ⟨a, b, c, s _ _ e⟩
theorem Well.put {H : Hp} {p q : Addr} {o : HO} (w : Well H p) (n : q ≠ p) : Well (upd H q o) p := let ⟨a, b, c, e⟩ := w; ⟨a, b, c, (upd_ne (Ne.symm n)).trans e⟩
theorem But.same' {H H1 : Hp} {p : Addr} (s : Same H H1) : But H H1 p := fun b o e _ => s b o e
theorem But.put {H H1 : Hp} {p D : Addr} {o : HO} (b : But H H1 p) (n : H D = none) : But H (upd H1 D o) p := fun x o' e nx => by
  rw [upd_ne (ne_of_none e n)]
  exact b x o' e nx
theorem hide_put {H H1 : Hp} {p D : Addr} {o : HO} (b : But H H1 p) : Same (hide H [p, D]) (hide (upd H1 D o) [p, D]) := fun a x e => by
  unfold hide at e ⊢
  split at e
  · cases e
  · rename_i z
    rw [if_neg z, upd_ne (fun q => z (by rw [q]; simp))]
    exact b a x e fun q => z (by rw [q]; simp)
theorem hide_one {H : Hp} {p D : Addr} : Same (hide H [p, D]) (hide H [p]) := fun a x e => by
  unfold hide at e ⊢
  split at e
  · cases e
  · rename_i z
    rw [if_neg fun q => z (by rw [List.mem_singleton.mp q]; simp)]
    exact e
theorem hide_but {H H1 : Hp} {p : Addr} (b : But H H1 p) : Same (hide H [p]) (hide H1 [p]) := fun a x e => by
  unfold hide at e ⊢
  split at e
  · cases e
  · rename_i z
    rw [if_neg z]
    exact b a x e fun q => z (by rw [q]; simp)
theorem hide_at2 {H : Hp} {p D a : Addr} {o : HO} (e : H a = some o) (h1 : a ≠ p) (h2 : a ≠ D) : hide H [p, D] a = some o := hide_at e (by simp [h1, h2])
theorem hide_at1 {H : Hp} {p a : Addr} {o : HO} (e : H a = some o) (h1 : a ≠ p) : hide H [p] a = some o := hide_at e (by simp [h1])
def prD (p : Int × Int) : PyData := .tuple [.int p.1, .int p.2]
def Lim (ps : List (Int × Int)) : Prop := ps.length ≤ 4 ∧ ∀ p ∈ ps, 1 ≤ p.1 ∧ p.1 ≤ 6 ∧ 1 ≤ p.2 ∧ p.2 ≤ 12
def limR : PyData → Prop := fun d => ∃ ps, d = .tuple (ps.map prD) ∧ Lim ps
def spSomeLim : Sp := fun vs H Q _ => ∃ (p : Addr) (tp wd : Int), vs = [.ref p, .int tp, .int wd] ∧ Well H p ∧ 0 < tp ∧ tp ≤ 6 ∧ 0 < wd ∧ wd ≤ 12 ∧ Drawn H p limR Q
section
variable {P : Program} {w : World} {K : PySem.W.Frag} {mg : Str → Option Value} {base : Heap}
theorem sc_slim : FnScope ["_law_well_here", "_law_top", "_law_width", "_law_number", "_law_turn"] ["_law_well_here", "_law_top", "_law_width"] (defScope s_l_some_limits) := ⟨rfl, rfl, rfl, by decide +kernel, rfl, by decide +kernel, by decide +kernel⟩
theorem ok_slim (T : D K mg) : FnOk P w K mg base CX0 3 T.f_l_some_limits T.d_l_some_limits ["_law_well_here", "_law_top", "_law_width"] spSomeLim := by
  refine T.U_l_some_limits.ok sc_slim (fun vs H Q E h => ?_) (fun cdv A outer s H vs Q E hr h => ?_)
  · obtain ⟨p, tp, wd, rfl, _⟩ := h
    rfl
  · obtain ⟨p, tp, wd, rfl, hp, t0, t1, w0, w1, k⟩ := h
    have nd := sc_slim.nd
    have mz : 5000 ≤ sizeLine := by decide
    refine ⟨_, pss_cons (ps_set (i := 3) nd rfl (.inl rfl) (pe_call (ok_l_one T) hr rfl T.g_l_one T.U_l_one.kp T.b_l_one .nil pass0 (pa_cons (pv 0) (pa_cons (pe_lst (pa_cons pe_int (pa_cons pe_int (pa_cons pe_int (pa_cons pe_int (pa_cons pe_int (pa_cons pe_int (pa_cons pe_int (pa_cons pe_int (pa_cons pe_int pa_nil)))))))))) pa_nil))))
      (pss_one (ps_ret (pe_callTy call_tuple_of (by rfl) T.tuple (by decide +kernel) (pa_cons (pe_lc (own := [("_law_turn", 4)]) (g := gName 4) (tt := tYes) rfl nd (pi_range1 rfl T.range (pa_cons (pv 3) pa_nil)) (blkOk_by (N := ["_law_well_here", "_law_top", "_law_width", "_law_number", "_law_turn"]) (sc := defScope s_l_some_limits) (by decide +kernel)) (fun _ _ _ _ _ => pg_name (i := 4) nd rfl (.inl rfl)) (fun _ _ _ _ _ => pts_nil) (fun _ _ _ _ _ => pe_tup (pa_cons (pe_op op_add pe_int (pe_call (ok_l_pick T) (hr.mono (by decide)) rfl T.g_l_pick T.U_l_pick.kp T.b_l_pick .nil pass0 (pa_cons (pv 0) (pa_cons (pv 1) pa_nil)))) (pa_cons (pe_op op_add pe_int (pe_call (ok_l_pick T) (hr.mono (by decide)) rfl T.g_l_pick T.U_l_pick.kp T.b_l_pick .nil pass0 (pa_cons (pv 0) (pa_cons (pv 2) pa_nil)))) pa_nil)))) pa_nil)))), ?_⟩
    refine ⟨_, rfl, by show 9 ≤ sizeLine; omega, fun q hq => ?_⟩
    have sq := same_upd (o := HO.lst [V.int 1, V.int 1, V.int 1, V.int 2, V.int 2, V.int 2, V.int 3, V.int 4, V.int 0]) hq
    refine ⟨p, q, _, rfl, hp.same sq, upd_same, well_ne hp hq, by decide, by decide, fun i v H1 hv w1' b1 => ?_⟩
    obtain ⟨n, rfl, n0, n4⟩ : ∃ n : Int, v = .int n ∧ 0 ≤ n ∧ n ≤ 4 := by
      have hm := List.mem_of_getElem? hv
      simp only [List.mem_cons, List.not_mem_nil, or_false] at hm
      rcases hm with rfl | rfl | rfl | rfl | rfl | rfl | rfl | rfl | rfl <;> exact ⟨_, rfl, by decide, by decide⟩
    have b01 : But H H1 p := (But.same' sq).trans b1
    refine gn ?_
    dsimp only
    refine ⟨_, rfl, n, rfl, by omega, by omega, fun D hD => lc_range (fun i Hx => But H1 Hx p ∧ Well Hx p ∧ ∃ (vs : List V) (ps : List (Int × Int)), Hx D = some (.lst vs) ∧ vs.length = i ∧ ps.length = i ∧ OdAll (hide Hx [p, D]) vs (ps.map prD) ∧ ∀ p ∈ ps, 1 ≤ p.1 ∧ p.1 ≤ 6 ∧ 1 ≤ p.2 ∧ p.2 ≤ 12)
      ⟨But.same' (same_upd hD), w1'.same (same_upd hD), [], [], upd_same, rfl, rfl, .nil, fun _ h => nomatch h⟩ ?_ ?_⟩
    · rintro i Hx hi ⟨bx, wx, vs, ps, ev, lv, lp, ov, hps⟩
      have nDp := well_ne w1' hD
      refine ⟨rfl, ?_⟩
      unfold tYes
      dsimp only
      rw [if_pos rfl]
      refine ⟨_, rfl, _, rfl, p, tp, rfl, wx, t0, by omega, fun r H3 r0 r1 w3 b3 => ⟨_, _, rfl, rfl, _, rfl, _, rfl, p, wd, rfl, w3, w0, by omega, fun r' H4 r0' r1' w4 b4 => ⟨_, _, rfl, rfl, by show 2 ≤ sizeLine; omega, fun t ht => ?_⟩⟩⟩
      have b34 := b3.trans b4
      have e4 : H4 D = some (.lst vs) := b34 _ _ ev nDp
      have st := same_upd (o := HO.tup [V.int (1 + r), V.int (1 + r')]) ht
      have ntp := well_ne w4 ht
      have ntD : t ≠ D := fun z => by rw [z, e4] at ht; cases ht
      refine ⟨_, st _ _ e4, by omega, (bx.trans (b34.trans (But.same' st))).put hD, (w4.same st).put nDp, _, ps ++ [(1 + r, 1 + r')], upd_same, by rw [List.length_append, lv]; rfl, by rw [List.length_append, lp]; rfl, ?_, fun x hx => ?_⟩
      · rw [List.map_append]
        refine (ov.same (hide_put (b34.trans (But.same' st)))).app (.cons (.tup (hide_at2 ((upd_ne ntD).trans upd_same) ntp ntD) (.cons (.int _) (.cons (.int _) .nil))) .nil)
      · rcases List.mem_append.mp hx with z | z
        · exact hps x z
        · rw [List.mem_singleton.mp z]
          show 1 ≤ 1 + r ∧ 1 + r ≤ 6 ∧ 1 ≤ 1 + r' ∧ 1 + r' ≤ 12
          omega
    · rintro Hx ⟨bx, wx, vs, ps, ev, lv, lp, ov, hps⟩
      refine ⟨D, vs, rfl, .inl ⟨SqL.of ev, fun R hR => ?_⟩⟩
      have sR := same_upd (o := HO.tup vs) hR
      exact k _ (.tuple (ps.map prD)) _ (b01.trans (bx.trans (But.same' sR))) (wx.same sR) (.tup (hide_at1 upd_same (well_ne wx hR)) ((ov.same hide_one).same (same_hide _ sR))) ⟨ps, rfl, by omega, hps⟩
end
end KP

set_option Elab.async false
set_option maxRecDepth 100000
set_option maxHeartbeats 4000000
set_option linter.all false
/-! Ours: drawn hours. -/
namespace KP
open PySem PySem.Spec PyProof.Rows L2 Gr GxR
theorem ixN_in {n : Nat} {r : Int} (h0 : 0 ≤ r) (h1 : r < n) : ixN n r = some r.toNat := by
  unfold ixN
  rw [if_pos h0, if_pos h1]
def hrsR : PyData → Prop := fun d => ∃ hs : List Int, d = .tuple (hs.map PyData.int) ∧ 0 < hs.length ∧ hs.length ≤ 12 ∧ (∀ h ∈ hs, 0 ≤ h ∧ h ≤ 1) ∧ ∃ j : Nat, ∃ h : j < hs.length, hs[j] = 1
def spSomeHrs : Sp := fun vs H Q _ => ∃ (p : Addr) (tp : Int), vs = [.ref p, .int tp] ∧ Well H p ∧ 0 < tp ∧ tp ≤ 12 ∧ Drawn H p hrsR Q
section
variable {P : Program} {w : World} {K : PySem.W.Frag} {mg : Str → Option Value} {base : Heap}
end
end KP

set_option Elab.async false
set_option maxRecDepth 100000
set_option maxHeartbeats 4000000
set_option linter.all false
/-! Ours: a drawn row of polite asks. -/
namespace KP
open PySem PySem.Spec PyProof.Rows L2 Gr GxR
theorem asc_snoc : ∀ {l : List Int} {m t : Int}, asc m l → (∀ x ∈ l, x ≤ t) → m ≤ t → asc m (l ++ [t])
  | [], m, t, _, _, h => ⟨h, trivial⟩
  | n :: l, m, t, a, h, _ => ⟨a.1, asc_snoc a.2 (fun x hx => h x (List.mem_cons_of_mem _ hx)) (h n List.mem_cons_self)⟩
theorem le_last {ns : List Int} {t : Int} (hs : Srt ns) (h : ∀ x, atI ns (-1) = some x → x ≤ t) : ∀ x ∈ ns, x ≤ t := fun x hx => by
  obtain ⟨i, hi, rfl⟩ := List.getElem_of_mem hx
  have e : atI ns (-1) = some ns[ns.length - 1] := by
    unfold atI ixN
    rw [if_neg (by omega), if_pos (by omega)]
    show ns[(-1 + ((ns.length : Nat) : Int)).toNat]? = _
    rw [show (-1 + ((ns.length : Nat) : Int)).toNat = ns.length - 1 by omega]
    exact List.getElem?_eq_getElem (by omega)
  have := h _ e
  have := hs i (ns.length - 1) hi (by omega) (by omega)
  omega
def Polite (ps : List (Int × Int)) (hs ns : List Int) : Prop := ∀ j, j < ns.length → politeAt ps hs ns j = true
theorem polite_snoc {ps : List (Int × Int)} {hs ns : List Int} {t : Int} (h : Polite ps hs ns) (ho : openI hs t = true) (ha : ps.all (apI ns t) = true) : Polite ps hs (ns ++ [t]) := fun j hj => by
  rw [List.length_append] at hj
  have hj : j < ns.length + 1 := hj
  by_cases z : j < ns.length
  · have := h j z
    unfold politeAt at this ⊢
    rw [List.getD_eq_getElem?_getD] at this ⊢
    rw [List.getElem?_append_left z, List.take_append_of_le_length (by omega)]
    exact this
  · have e : j = ns.length := by omega
    subst e
    unfold politeAt
    rw [List.getD_eq_getElem?_getD, List.getElem?_append_right (Nat.le_refl _), Nat.sub_self, List.take_left]
    show (openI hs t && ps.all (apI ns t)) = true
    rw [ho, ha]
    rfl
def rowR (ps : List (Int × Int)) (hs : List Int) (n : Nat) : PyData → Prop := fun d => ∃ ns : List Int, d = .tuple (ns.map PyData.int) ∧ asc 0 ns ∧ ns.length = n ∧ Polite ps hs ns ∧ ∀ x ∈ ns, x ≤ 1100 * ((ns.length : Nat) : Int)
def spSomeRow : Sp := fun vs H Q _ => ∃ (p : Addr) (lv hv : V) (ps : List (Int × Int)) (hs : List Int) (n tp : Int), vs = [.ref p, lv, hv, .int n, .int tp] ∧ Well H p ∧ Od (hide H [p]) lv (.tuple ((ps.map inD).map tw)) ∧ (∀ p ∈ ps, 1 ≤ p.1 ∧ 1 ≤ p.2 ∧ p.2 ≤ 12) ∧ Od (hide H [p]) hv (.tuple (hs.map PyData.int)) ∧ hs.length ≤ 12 ∧ (∃ j : Nat, ∃ h : j < hs.length, hs[j] = 1) ∧ 0 ≤ n ∧ n ≤ 100 ∧ 0 ≤ tp ∧ tp ≤ 1000 ∧ Drawn H p (rowR ps hs n.toNat) Q
section
variable {P : Program} {w : World} {K : PySem.W.Frag} {mg : Str → Option Value} {base : Heap}
end
end KP

set_option Elab.async false
set_option maxRecDepth 100000
set_option linter.all false
/-! Ours: the first wrong ask: other orders, cuts, one more, shifts. -/
namespace KP
open PySem PySem.Spec PyProof.Rows L2 Gr GxR
theorem first_some {ps : List (Int × Int)} {hs ns : List Int} {i : Nat} (h : firstI ps hs ns = some i) : i < ns.length ∧ politeAt ps hs ns i = false ∧ ∀ j, j < i → politeAt ps hs ns j = true := by
  unfold firstI at h
  rw [List.find?_range_eq_some] at h
  obtain ⟨h1, h2, h3⟩ := h
  refine ⟨List.mem_range.mp h2, by cases e : politeAt ps hs ns i <;> simp_all, fun j hj => ?_⟩
  have := h3 j hj
  cases e : politeAt ps hs ns j <;> simp_all
theorem first_no {ps : List (Int × Int)} {hs ns : List Int} (h : firstI ps hs ns = none) : Polite ps hs ns := fun j hj => by
  unfold firstI at h
  rw [List.find?_eq_none] at h
  have := h j (List.mem_range.mpr hj)
  cases e : politeAt ps hs ns j <;> simp_all
/-- rows that are wrong at the same places have one first wrong place -/
theorem first_congr {ps ps' : List (Int × Int)} {hs hs' ns ns' : List Int} (hl : ns.length = ns'.length) (h : ∀ j, j < ns.length → politeAt ps hs ns j = politeAt ps' hs' ns' j) : firstI ps hs ns = firstI ps' hs' ns' := by
  cases e : firstI ps' hs' ns' with
  | none =>
    have q := first_no e
    exact first_none fun j hj => by rw [h j hj]; exact q j (by omega)
  | some i =>
    obtain ⟨h1, h2, h3⟩ := first_some e
    exact first_at (by omega) (fun j hj => by rw [h j (by omega)]; exact h3 j hj) (by rw [h i (by omega)]; exact h2)
theorem first_rev (ps : List (Int × Int)) (hs ns : List Int) : firstI ps.reverse hs ns = firstI ps hs ns :=
  first_congr rfl fun j _ => by unfold politeAt; rw [List.all_reverse]
theorem polite_take {ps : List (Int × Int)} {hs ns : List Int} {m j : Nat} (hj : j < m) (hl : j < ns.length) : politeAt ps hs (ns.take m) j = politeAt ps hs ns j := by
  unfold politeAt
  have e : (ns.take m).getD j 0 = ns.getD j 0 := by
    rw [List.getD_eq_getElem?_getD, List.getD_eq_getElem?_getD, List.getElem?_take_of_lt hj]
  rw [e, List.take_take, Nat.min_eq_left (by omega)]
theorem first_take {ps : List (Int × Int)} {hs ns : List Int} {m : Nat} (hm : m ≤ ns.length) : firstI ps hs (ns.take m) = (match firstI ps hs ns with
    | some i => if i < m then some i else none
    | none => none) := by
  have hl : (ns.take m).length = m := by rw [List.length_take]; omega
  cases e : firstI ps hs ns with
  | none =>
    have q := first_no e
    exact first_none fun j hj => by
      rw [hl] at hj
      rw [polite_take hj (by omega)]
      exact q j (by omega)
  | some i =>
    obtain ⟨h1, h2, h3⟩ := first_some e
    show _ = if i < m then some i else none
    by_cases z : i < m
    · rw [if_pos z]
      exact first_at (by omega) (fun j hj => by rw [polite_take (by omega) (by omega)]; exact h3 j hj) (by rw [polite_take z h1]; exact h2)
    · rw [if_neg z]
      exact first_none fun j hj => by
        rw [hl] at hj
        rw [polite_take hj (by omega)]
        exact h3 j (by omega)
theorem first_snoc {ps : List (Int × Int)} {hs ns : List Int} {t : Int} (h : firstI ps hs ns = none) : (firstI ps hs (ns ++ [t])).isNone = (openI hs t && ps.all (apI ns t)) := by
  have q := first_no h
  have el : politeAt ps hs (ns ++ [t]) ns.length = (openI hs t && ps.all (apI ns t)) := by
    unfold politeAt
    rw [List.getD_eq_getElem?_getD, List.getElem?_append_right (Nat.le_refl _), Nat.sub_self, List.take_left]
    rfl
  have eb : ∀ j, j < ns.length → politeAt ps hs (ns ++ [t]) j = true := fun j hj => by
    have := polite_take (ps := ps) (hs := hs) (ns := ns ++ [t]) (m := ns.length) hj (by rw [List.length_append]; omega)
    rw [List.take_left] at this
    rw [← this]
    exact q j hj
  cases hb : (openI hs t && ps.all (apI ns t)) with
  | true =>
    rw [first_none fun j hj => ?_]
    · rfl
    · rw [List.length_append] at hj
      have hj : j < ns.length + 1 := hj
      by_cases z : j < ns.length
      · exact eb j z
      · rw [show j = ns.length by omega, el, hb]
  | false =>
    rw [first_at (i := ns.length) (by rw [List.length_append]; show _ < _ + 1; omega) eb (by rw [el, hb])]
    rfl
theorem open_shift (hs : List Int) (t k : Int) : openI hs (t + k * ((hs.length : Nat) : Int)) = openI hs t := by
  unfold openI
  rw [Int.add_mul_emod_self_right]
theorem open_twice (hs : List Int) (h0 : 0 < hs.length) (t : Int) : openI (hs ++ hs) t = openI hs t := by
  unfold openI
  have a := Int.emod_nonneg t (b := ((hs.length : Nat) : Int)) (by omega)
  have b := Int.emod_lt_of_pos t (b := ((hs.length : Nat) : Int)) (by omega)
  have c := Int.emod_nonneg t (b := (((hs ++ hs).length : Nat) : Int)) (by rw [List.length_append]; omega)
  have d := Int.emod_lt_of_pos t (b := (((hs ++ hs).length : Nat) : Int)) (by rw [List.length_append]; omega)
  have e : (t % (((hs ++ hs).length : Nat) : Int)) % ((hs.length : Nat) : Int) = t % ((hs.length : Nat) : Int) :=
    Int.emod_emod_of_dvd t (by rw [List.length_append, Int.natCast_add]; exact ⟨2, by omega⟩)
  rw [List.length_append] at d
  by_cases z : t % (((hs ++ hs).length : Nat) : Int) < ((hs.length : Nat) : Int)
  · rw [Int.emod_eq_of_lt c z] at e
    rw [e, List.getElem?_append_left (by omega)]
  · have e2 : t % (((hs ++ hs).length : Nat) : Int) - ((hs.length : Nat) : Int) = t % ((hs.length : Nat) : Int) := by
      rw [← e]
      have : (t % (((hs ++ hs).length : Nat) : Int)) % ((hs.length : Nat) : Int) = (t % (((hs ++ hs).length : Nat) : Int) - ((hs.length : Nat) : Int)) % ((hs.length : Nat) : Int) := by
        rw [Int.sub_emod_right]
      rw [this]
      exact (Int.emod_eq_of_lt (by omega) (by rw [List.length_append] at *; omega)).symm
    rw [List.getElem?_append_right (by omega)]
    congr 2
    omega
theorem atI_shift (c : Int) (ns : List Int) (i : Int) : atI (ns.map (· + c)) i = (atI ns i).map (· + c) := by
  unfold atI
  rw [List.length_map]
  cases ixN ns.length i with
  | none => rfl
  | some j =>
    show (ns.map (· + c))[j]? = (ns[j]?).map (· + c)
    rw [List.getElem?_map]
theorem ap_shift (c : Int) (ns : List Int) (t : Int) (q : Int × Int) : apI (ns.map (· + c)) (t + c) q = apI ns t q := by
  unfold apI
  rw [List.length_map, atI_shift]
  cases atI ns (-q.1) with
  | none => rfl
  | some x =>
    show (_ || decide (q.2 ≤ t + c - (x + c))) = (_ || decide (q.2 ≤ t - x))
    rw [show t + c - (x + c) = t - x by omega]
end KP

set_option Elab.async false
set_option maxRecDepth 100000
set_option linter.all false
/-! Ours: right rules; shifted asks. -/
namespace KP
open PySem PySem.Spec PyProof.Rows L2 Gr GxR
structure Good (ps : List (Int × Int)) (hs : List Int) : Prop where
  l : ps.length ≤ 4
  p : ∀ p ∈ ps, 1 ≤ p.1 ∧ p.1 ≤ 6 ∧ 1 ≤ p.2 ∧ p.2 ≤ 12
  h0 : 0 < hs.length
  h1 : hs.length ≤ 12
  d : ∀ h ∈ hs, 0 ≤ h ∧ h ≤ 1
  one : ∃ j : Nat, ∃ h : j < hs.length, hs[j] = 1
theorem has_one : ∀ {hs : List Int}, (1 : Int) ∈ hs → hasOne 1 (hs.map PyData.int) = true
  | h :: l, m => by
    show ((h == 1) || hasOne 1 (l.map PyData.int)) = true
    rw [Bool.or_eq_true]
    rcases List.mem_cons.mp m with e | e
    · exact .inl (by rw [← e]; rfl)
    · exact .inr (has_one e)
theorem Good.hours {ps : List (Int × Int)} {hs : List Int} (g : Good ps hs) : hoursD (.tuple (hs.map PyData.int)) = true := by
  obtain ⟨j, hj, e⟩ := g.one
  have e1 : rowD (.tuple (hs.map PyData.int)) 1 12 = true := by
    show (decide ((1 : Int) ≤ ((hs.map PyData.int).length : Nat)) && decide ((((hs.map PyData.int).length : Nat) : Int) ≤ 12)) = true
    have := g.h0
    have := g.h1
    rw [List.length_map, Bool.and_eq_true, decide_eq_true_eq, decide_eq_true_eq]
    omega
  have e2 : (hs.map PyData.int).all (fun x => betwD x 0 1) = true := List.all_eq_true.mpr fun d hd => by
    obtain ⟨h, hh, rfl⟩ := List.mem_map.mp hd
    have := g.d h hh
    show (decide (0 ≤ h) && decide (h ≤ 1)) = true
    rw [Bool.and_eq_true, decide_eq_true_eq, decide_eq_true_eq]
    exact this
  have e3 : hasOne 1 (hs.map PyData.int) = true := has_one (e ▸ List.getElem_mem hj)
  unfold hoursD
  rw [e1, Bool.true_and]
  show ((hs.map PyData.int).all (fun x => betwD x 0 1) && hasOne 1 (hs.map PyData.int)) = true
  rw [e2, e3]
  rfl
theorem Good.rules {ps : List (Int × Int)} {hs : List Int} (g : Good ps hs) : rulesD (rulesP ps hs) = true := by
  have e1 : rowD (.tuple ((ps.map inD).map tw)) 0 4 = true := by
    show (decide ((0 : Int) ≤ (((ps.map inD).map tw).length : Nat)) && decide (((((ps.map inD).map tw).length : Nat) : Int) ≤ 4)) = true
    have := g.l
    rw [List.length_map, List.length_map, Bool.and_eq_true, decide_eq_true_eq, decide_eq_true_eq]
    omega
  have e2 : ((ps.map inD).map tw).all limD = true := List.all_eq_true.mpr fun d hd => by
    obtain ⟨q, hq, rfl⟩ := List.mem_map.mp hd
    obtain ⟨p, hp, rfl⟩ := List.mem_map.mp hq
    have := g.p p hp
    show ((decide (1 ≤ p.1) && decide (p.1 ≤ 6)) && (decide (1 ≤ p.2) && decide (p.2 ≤ 12))) = true
    simp only [Bool.and_eq_true, decide_eq_true_eq]
    omega
  have e3 : limsD (.tuple ((ps.map inD).map tw)) = true := by
    unfold limsD
    rw [e1, Bool.true_and]
    exact e2
  show (limsD (.tuple ((ps.map inD).map tw)) && hoursD (.tuple (hs.map PyData.int))) = true
  rw [e3, g.hours]
  rfl
theorem Good.rev {ps : List (Int × Int)} {hs : List Int} (g : Good ps hs) : Good ps.reverse hs := ⟨by rw [List.length_reverse]; exact g.l, fun p hp => g.p p (List.mem_reverse.mp hp), g.h0, g.h1, g.d, g.one⟩
theorem Good.twice {ps : List (Int × Int)} {hs : List Int} (g : Good ps hs) (h : hs.length < 7) : Good ps (hs ++ hs) := ⟨g.l, g.p, by have := g.h0; rw [List.length_append]; omega, by rw [List.length_append]; omega, fun x hx => g.d x ((List.mem_append.mp hx).elim id id), by
  obtain ⟨j, hj, e⟩ := g.one
  exact ⟨j, by rw [List.length_append]; omega, by rw [List.getElem_append_left hj]; exact e⟩⟩
theorem Good.right {ps : List (Int × Int)} {hs ns : List Int} (g : Good ps hs) (a : asc 0 ns) (n : ns.length ≤ 200) : Right ps hs ns := ⟨g.rules, fun p hp => (g.p p hp).1, g.h0, a, n⟩
theorem asc_take : ∀ {l : List Int} {m : Int} (k : Nat), asc m l → asc m (l.take k)
  | [], m, k, _ => by rw [List.take_nil]; trivial
  | n :: l, m, 0, _ => trivial
  | n :: l, m, k + 1, h => ⟨h.1, asc_take k h.2⟩
theorem asc_mono : ∀ {l : List Int} {m u : Int}, asc m l → u ≤ m → asc u l
  | [], _, _, _, _ => trivial
  | n :: l, m, u, h, q => ⟨by have := h.1; omega, h.2⟩
theorem asc_shift (c : Int) : ∀ {l : List Int} {m : Int}, asc m l → asc (m + c) (l.map (· + c))
  | [], _, _ => trivial
  | n :: l, m, h => ⟨by have := h.1; show m + c ≤ n + c; omega, asc_shift c h.2⟩
theorem polite_shift (ps : List (Int × Int)) {hs hs' : List Int} (ns : List Int) (c : Int) (ho : ∀ t, openI hs' (t + c) = openI hs t) (j : Nat) (hj : j < ns.length) : politeAt ps hs' (ns.map (· + c)) j = politeAt ps hs ns j := by
  unfold politeAt
  have e : (ns.map (· + c)).getD j 0 = ns.getD j 0 + c := by
    rw [List.getD_eq_getElem?_getD, List.getD_eq_getElem?_getD, List.getElem?_map, List.getElem?_eq_getElem hj]
    rfl
  rw [e, ho, ← List.map_take]
  congr 2
  funext q
  exact ap_shift c _ _ q
theorem first_shift (ps : List (Int × Int)) {hs hs' : List Int} (ns : List Int) (c : Int) (ho : ∀ t, openI hs' (t + c) = openI hs t) : firstI ps hs' (ns.map (· + c)) = firstI ps hs ns :=
  first_congr (by rw [List.length_map]) fun j hj => polite_shift ps ns c ho j (by rw [List.length_map] at hj; exact hj)
theorem open_later {hs : List Int} (h0 : 0 < hs.length) (t : Int) : openI hs (t + 5 * ((hs.length : Nat) : Int)) = openI hs t ∧ openI (hs ++ hs) (t + 5 * ((hs.length : Nat) : Int)) = openI hs t :=
  ⟨open_shift hs t 5, by rw [open_twice hs h0, open_shift]⟩
end KP

set_option Elab.async false
set_option maxRecDepth 100000
set_option maxHeartbeats 4000000
set_option linter.all false
/-! Ours: soonest, of right arguments. -/
namespace KP
open PySem PySem.Spec PyProof.Rows L2 Gr GxR
def spCkB : Sp := fun vs H Q _ => ∃ t lo hi : Int, vs = [.int t, .int lo, .int hi] ∧ lo ≤ t ∧ t ≤ hi ∧ Q .non H
def spAmt : Sp := fun vs H Q _ => ∃ t : Int, vs = [.int t] ∧ 0 ≤ t ∧ t ≤ 100 ∧ Q .non H
def spSoonest (L : List Addr) : Sp := fun vs H Q _ => ∃ (rv av : V) (n st : Int) (ps : List (Int × Int)) (hs ns : List Int), vs = [rv, av, .int n, .int st] ∧ Od H rv (rulesP ps hs) ∧ Od H av (.tuple (ns.map PyData.int)) ∧ Good ps hs ∧ asc 0 ns ∧ ns.length ≤ 200 ∧ firstI ps hs ns = none ∧ 0 ≤ n ∧ n ≤ 100 ∧ 0 ≤ st ∧ Tb L H ∧ ∀ z ts H', UpL L H H' → IsI H' z ts → ts.length = n.toNat → SRow ps hs ns st ts → Q z H'
section
variable {P : Program} {w : World} {K : PySem.W.Frag} {mg : Str → Option Value} {base : Heap}
theorem sc_ckb : FnScope ["given", "low", "high"] ["given", "low", "high"] (defScope s_check_between) := ⟨rfl, rfl, rfl, by decide +kernel, rfl, by decide +kernel, by decide +kernel⟩
theorem ok_ckb (T : D K mg) : FnOk P w K mg base CX0 3 T.f_check_between T.d_check_between ["given", "low", "high"] spCkB := by
  refine T.U_check_between.ok sc_ckb (fun vs H Q E h => ?_) (fun cdv A outer s H vs Q E hr h => ?_)
  · obtain ⟨t, lo, hi, rfl, _⟩ := h
    rfl
  · obtain ⟨t, lo, hi, rfl, h1, h2, k⟩ := h
    refine ⟨_, pss_one (ps_if (pt_not (pt_val (pe_call (ok_betw T) hr rfl T.g_is_between T.U_is_between.kp T.b_is_between .nil pass0 (pa_cons (pv 0) (pa_cons (pv 1) (pa_cons (pv 2) pa_nil))))))
        (pss_one (ps_never))
        (pss_nil)), ?_⟩
    refine ⟨_, rfl, _, rfl, _, rfl, .int t, .int t, lo, hi, rfl, .int t, _, rfl, ?_⟩
    have e : betwD (.int t) lo hi = true := by
      show (decide (lo ≤ t) && decide (t ≤ hi)) = true
      rw [decide_eq_true h1, decide_eq_true h2]
      rfl
    rw [e]
    exact k
end
end KP

set_option Elab.async false
set_option maxRecDepth 100000
set_option linter.all false
/-! Ours: how many asks are below an end: the mathematics. -/
namespace KP
open PySem PySem.Spec PyProof.Rows L2 Gr GxR
/-- of the next asks behind nothing, from st on, n are below e -/
def Mst (ps : List (Int × Int)) (hs : List Int) (st e : Int) (n : Nat) : Prop := ∃ ts, SRow ps hs [] st ts ∧ ts.length = n ∧ (∀ t ∈ ts, t < e) ∧ ∀ t, IsNxt ps hs ts st t → e ≤ t
theorem srow_prefix {ps : List (Int × Int)} {hs ts us : List Int} {st : Int} (a : SRow ps hs [] st ts) (b : SRow ps hs [] st us) (h : ts.length ≤ us.length) : us.take ts.length = ts := by
  have := SRow.one a b ts.length (Nat.le_refl _) h
  rw [List.take_of_length_le (Nat.le_refl _)] at this
  exact this.symm
theorem mst_le {ps : List (Int × Int)} {hs : List Int} {st e : Int} {n m : Nat} (a : Mst ps hs st e n) (b : Mst ps hs st e m) : m ≤ n := by
  obtain ⟨ts, h1, h2, h3, h4⟩ := a
  obtain ⟨us, k1, k2, k3, k4⟩ := b
  by_cases z : m ≤ n
  · exact z
  · have p := srow_prefix h1 k1 (by omega)
    have nx := k1 ts.length (by omega)
    rw [p] at nx
    have := h4 _ nx
    have := k3 _ (List.getElem_mem (l := us) (n := ts.length) (by omega))
    omega
theorem Mst.one {ps : List (Int × Int)} {hs : List Int} {st e : Int} {n m : Nat} (a : Mst ps hs st e n) (b : Mst ps hs st e m) : n = m := Nat.le_antisymm (mst_le b a) (mst_le a b)
theorem least_nat {P : Nat → Prop} : ∀ n, P n → ∃ m, P m ∧ ∀ k, k < m → ¬ P k := fun n h => by
  induction n using Nat.strongRecOn with
  | ind n ih =>
    by_cases z : ∃ k, k < n ∧ P k
    · obtain ⟨k, hk, pk⟩ := z
      exact ih k hk pk
    · exact ⟨n, h, fun k hk pk => z ⟨k, hk, pk⟩⟩
theorem nxt_some {ps : List (Int × Int)} {hs rs : List Int} {st : Int} (hp : ∀ p ∈ ps, 1 ≤ p.1) (ho : ∃ j : Nat, ∃ h : j < hs.length, hs[j] = 1) : ∃ t, IsNxt ps hs rs st t := by
  obtain ⟨j, hj, e⟩ := ho
  -- a moment behind all
  have big : ∃ M : Int, st ≤ M ∧ (∀ x ∈ rs, x ≤ M) := by
    refine ⟨rs.foldl max st, ?_, ?_⟩
    · clear hp e
      induction rs generalizing st with
      | nil => exact Int.le_refl _
      | cons a l ih => exact Int.le_trans (Int.le_max_left st a) (ih (st := max st a))
    · clear hp e
      intro x hx
      have h1 : ∀ (l : List Int) (s : Int), s ≤ l.foldl max s := fun l => by
        induction l with
        | nil => exact fun s => Int.le_refl _
        | cons a l ih => exact fun s => Int.le_trans (Int.le_max_left s a) (ih (max s a))
      induction rs generalizing st with
      | nil => cases hx
      | cons a l ih =>
        rcases List.mem_cons.mp hx with e | e
        · rw [e]
          exact Int.le_trans (Int.le_max_right st a) (h1 l (max st a))
        · exact ih (st := max st a) e
  obtain ⟨M, hM1, hM2⟩ := big
  have bigw : ∃ W : Int, 0 ≤ W ∧ ∀ p ∈ ps, p.2 ≤ W := by
    clear hp e
    induction ps with
    | nil => exact ⟨0, Int.le_refl _, fun _ h => nomatch h⟩
    | cons a l ih =>
      obtain ⟨W, h0, hW⟩ := ih
      refine ⟨max W a.2, Int.le_trans h0 (Int.le_max_left _ _), fun p h => ?_⟩
      rcases List.mem_cons.mp h with e | e
      · rw [e]; exact Int.le_max_right _ _
      · exact Int.le_trans (hW p e) (Int.le_max_left _ _)
  obtain ⟨W, hW0, hW⟩ := bigw
  obtain ⟨s, hs1, hs2⟩ := open_soon hj e (M + W)
  let P : Nat → Prop := fun k => Past rs st (st + (k : Int)) ∧ openI hs (st + (k : Int)) = true ∧ ps.all (apI rs (st + (k : Int))) = true
  have h1 : P (M + W + (s : Int) - st).toNat := by
    have e2 : st + (((M + W + (s : Int) - st).toNat : Nat) : Int) = M + W + (s : Int) := by omega
    show Past rs st (st + (((M + W + (s : Int) - st).toNat : Nat) : Int)) ∧ _ ∧ _
    rw [e2]
    refine ⟨⟨by omega, fun x hx => ?_⟩, hs2, List.all_eq_true.mpr fun q hq => ?_⟩
    · obtain ⟨h0, rfl⟩ := last_some hx
      have := hM2 _ (List.getElem_mem (l := rs) (n := rs.length - 1) (by omega))
      omega
    · have hq1 := hp q hq
      have hq2 := hW q hq
      unfold apI
      by_cases z : ((rs.length : Nat) : Int) < q.1
      · rw [decide_eq_true z, Bool.true_or]
      · rw [back_at hq1 (by omega)]
        have := hM2 _ (List.getElem_mem (l := rs) (n := rs.length - q.1.toNat) (by omega))
        rw [Bool.or_eq_true]
        exact .inr (decide_eq_true (by omega))
  obtain ⟨m, ⟨a, b, c⟩, hm⟩ := least_nat _ h1
  refine ⟨_, a, b, c, fun u pu ou au => ?_⟩
  by_cases z : st + (m : Int) ≤ u
  · exact z
  · have := pu.1
    have e2 : st + (((u - st).toNat : Nat) : Int) = u := by omega
    exact absurd (show P (u - st).toNat from by
      show Past rs st (st + (((u - st).toNat : Nat) : Int)) ∧ _ ∧ _
      rw [e2]
      exact ⟨pu, ou, au⟩) (hm _ (by omega))
theorem row_srt {ps : List (Int × Int)} {hs ns ts : List Int} {st : Int} (sn : Srt ns) (sr : SRow ps hs ns st ts) : ∀ i, i ≤ ts.length → Srt (ns ++ ts.take i)
  | 0, _ => by rw [List.take_zero, List.append_nil]; exact sn
  | i + 1, hi => by
    have a := row_srt sn sr i (by omega)
    have n := sr i (by omega)
    have e : ts.take (i + 1) = ts.take i ++ [ts[i]] := by rw [List.take_add_one, List.getElem?_eq_getElem (by omega)]; rfl
    rw [e, ← List.append_assoc]
    exact snoc_srt a n.past
theorem srt_nil : Srt [] := fun i _ h => absurd h (Nat.not_lt_zero i)
theorem row_srt0 {ps : List (Int × Int)} {hs ts : List Int} {st : Int} (sr : SRow ps hs [] st ts) : Srt ts := by
  have := row_srt srt_nil sr ts.length (Nat.le_refl _)
  rw [List.nil_append, List.take_of_length_le (Nat.le_refl _)] at this
  exact this
theorem row_from {ps : List (Int × Int)} {hs ts : List Int} {st : Int} (sr : SRow ps hs [] st ts) : ∀ x ∈ ts, st ≤ x := fun x hx => by
  obtain ⟨i, hi, rfl⟩ := List.getElem_of_mem hx
  exact (sr i hi).past.1
/-- such a row's asks below e are its first ones -/
theorem below_count {ps : List (Int × Int)} {hs ts : List Int} {st e : Int} {n : Nat} (sr : SRow ps hs [] st ts) (m : Mst ps hs st e n) (h : n ≤ ts.length) : (ts.filter fun t => decide (t < e)).length = n := by
  obtain ⟨us, k1, k2, k3, k4⟩ := m
  have p := srow_prefix k1 sr (by omega)
  rw [k2] at p
  have sp := row_srt0 sr
  have e1 : ts = ts.take n ++ ts.drop n := (List.take_append_drop n ts).symm
  rw [e1, List.filter_append, p]
  rw [List.filter_eq_self.mpr (fun t ht => decide_eq_true (k3 t ht))]
  have e2 : (ts.drop n).filter (fun t => decide (t < e)) = [] := by
    refine List.filter_eq_nil_iff.mpr fun t ht => ?_
    obtain ⟨i, hi, rfl⟩ := List.getElem_of_mem ht
    rw [List.length_drop] at hi
    rw [List.getElem_drop]
    have nx := sr n (by omega)
    rw [List.nil_append, p] at nx
    have := k4 _ nx
    have := sp n (n + i) (by omega) (by omega) (by omega)
    simp only [decide_eq_true_eq]
    omega
  rw [e2, List.append_nil, k2]
/-- a row grows by each pair's W with each K of them -/
theorem row_grow {ps : List (Int × Int)} {hs ts : List Int} {st : Int} {p : Int × Int} (hp : p ∈ ps) {K : Nat} (hK : 1 ≤ p.1 ∧ p.1 ≤ (K : Int)) {W : Int} (hW : W ≤ p.2) (hW0 : 0 ≤ W) (sr : SRow ps hs [] st ts) : ∀ (q i : Nat) (hi : i < ts.length), K * q ≤ i → st + W * (q : Int) ≤ ts[i]
  | 0, i, hi, _ => by
    have := (sr i hi).past.1
    simpa using this
  | q + 1, i, hi, h => by
    have sp := row_srt0 sr
    have e0 : K * (q + 1) = K * q + K := Nat.mul_succ K q
    have ih := row_grow hp hK hW hW0 sr q (i - K) (by omega) (by omega)
    have a := List.all_eq_true.mp (sr i hi).all p hp
    rw [List.nil_append] at a
    unfold apI at a
    have hl : (ts.take i).length = i := by rw [List.length_take]; omega
    rw [hl, decide_eq_false (by omega), Bool.false_or, back_at hK.1 (by rw [hl]; omega)] at a
    have a := of_decide_eq_true a
    rw [List.getElem_take] at a
    have b := sp (i - K) ((ts.take i).length - p.1.toNat) (by omega) (by rw [hl]; omega) (by rw [hl]; omega)
    have e1 : W * ((q + 1 : Nat) : Int) = W * (q : Int) + W := by
      rw [Int.natCast_add, Int.mul_add]
      simp
    omega
/-- what lets one more ask behind later ones lets it behind sooner ones -/
theorem lead_nxt {ps : List (Int × Int)} {hs us rs : List Int} {st t u : Int} (hp : ∀ p ∈ ps, 1 ≤ p.1) (n : IsNxt ps hs us st t) (hl : us.length = rs.length) (hle : ∀ (i : Nat) (h : i < us.length), us[i] ≤ rs[i]'(hl ▸ h)) (h1 : st ≤ u) (h2 : ∀ x ∈ rs, x ≤ u) (ho : openI hs u = true) (ha : ps.all (apI rs u) = true) : t ≤ u := by
  refine n.least u ⟨h1, fun x hx => ?_⟩ ho (List.all_eq_true.mpr fun q hq => ap_sooner (hp q hq) hl hle (List.all_eq_true.mp ha q hq))
  obtain ⟨h0, rfl⟩ := last_some hx
  have a := hle (us.length - 1) (by omega)
  have b := h2 _ (List.getElem_mem (l := rs) (n := us.length - 1) (by omega))
  omega
end KP

set_option Elab.async false
set_option maxRecDepth 100000
set_option maxHeartbeats 4000000
set_option linter.all false
/-! Ours: hours that may stand in the written part; how many asks there are at most. -/
namespace KP
open PySem PySem.Spec PyProof.Rows L2 Gr GxR
/-- hours, laid or written -/
def HrsV (K : PySem.W.Frag) (H : Hp) (v : V) (hs : List Int) : Prop := ∃ a, v = .ref a ∧ SqT K H a (hs.map V.int)
theorem hrsV_same {K : PySem.W.Frag} {H H' : Hp} {v : V} {hs : List Int} (s : Same H H') (h : HrsV K H v hs) : HrsV K H' v hs := let ⟨a, e, q⟩ := h; ⟨a, e, sqt_same s q⟩
theorem hrsV_of {K : PySem.W.Frag} {H : Hp} {v : V} {hs : List Int} (h : Od H v (.tuple (hs.map PyData.int))) : HrsV K H v hs := by
  obtain ⟨a, rfl, e⟩ := od_I h
  exact ⟨a, rfl, SqT.of e⟩
/-- rules: a pair of limits and hours -/
def RulV (K : PySem.W.Frag) (H : Hp) (v : V) (ps : List (Int × Int)) (hs : List Int) : Prop := ∃ a lv hv, v = .ref a ∧ H a = some (.tup [lv, hv]) ∧ Od H lv (.tuple ((ps.map inD).map tw)) ∧ HrsV K H hv hs
theorem rulV_same {K : PySem.W.Frag} {H H' : Hp} {v : V} {ps : List (Int × Int)} {hs : List Int} (s : Same H H') (h : RulV K H v ps hs) : RulV K H' v ps hs := let ⟨a, lv, hv, e, q, x, y⟩ := h; ⟨a, lv, hv, e, s _ _ q, x.same s, hrsV_same s y⟩
theorem rulV_of {K : PySem.W.Frag} {H : Hp} {v : V} {ps : List (Int × Int)} {hs : List Int} (h : Od H v (rulesP ps hs)) : RulV K H v ps hs := by
  obtain ⟨a, xs, rfl, e, o⟩ := od_tup h
  match xs, o with
  | [lv, hv], .cons oL (.cons oH .nil) => exact ⟨a, lv, hv, rfl, e, oL, hrsV_of oH⟩
def spOpensK (K : PySem.W.Frag) : Sp := fun vs H Q _ => ∃ (hv : V) (hs : List Int) (t : Int), vs = [hv, .int t] ∧ HrsV K H hv hs ∧ 0 < hs.length ∧ Q (.bl (openI hs t)) H
def spNOpenK (K : PySem.W.Frag) : Sp := fun vs H Q _ => ∃ (hv : V) (hs : List Int) (t : Int), vs = [hv, .int t] ∧ HrsV K H hv hs ∧ (∃ j : Nat, ∃ h : j < hs.length, hs[j] = 1) ∧ ∀ u, openI hs u = true → t ≤ u → (∀ v, t ≤ v → openI hs v = true → u ≤ v) → Q (.int u) H
def spNextK (K : PySem.W.Frag) : Sp := fun vs H Q _ => ∃ (rv : V) (r : Addr) (st : Int) (ps : List (Int × Int)) (hs rs : List Int), vs = [rv, .ref r, .int st] ∧ RulV K H rv ps hs ∧ ps.length ≤ 4 ∧ (∀ p ∈ ps, 1 ≤ p.1) ∧ (∃ j : Nat, ∃ h : j < hs.length, hs[j] = 1) ∧ H r = some (.lst (rs.map V.int)) ∧ rs.length ≤ 4000 ∧ ∀ t H', IsNxt ps hs rs st t → Same H H' → Q (.int t) H'
section
variable {P : Program} {w : World} {K : PySem.W.Frag} {mg : Str → Option Value} {base : Heap}
theorem sc_opensK : FnScope ["hours", "moment"] ["hours", "moment"] (defScope s_opens) := ⟨rfl, rfl, rfl, by decide +kernel, rfl, by decide +kernel, by decide +kernel⟩
theorem ok_opensK (T : D K mg) : FnOk P w K mg base CX0 1 T.f_opens T.d_opens ["hours", "moment"] (spOpensK K) := by
  refine T.U_opens.ok sc_opensK (fun vs H Q E h => ?_) (fun cdv A outer s H vs Q E hr h => ?_)
  · obtain ⟨hv, hs, t, rfl, _⟩ := h
    rfl
  · obtain ⟨hv, hs, t, rfl, ho, h0, k⟩ := h
    have nd := sc_opensK.nd
    obtain ⟨a, rfl, ea⟩ := ho
    refine ⟨_, pss_one (ps_ret (pe_cmpR op_eq (pe_ix ix_tup (pv 0) (pe_op op_mod (pv 1) (pe_callB call_len_seq (by rfl) T.len PySem.boot_len (pa_cons (pv 0) pa_nil))) (fun _ _ => rfl)) pe_int (nomark _))), ?_⟩
    have hb := Int.emod_nonneg t (b := ((hs.length : Nat) : Int)) (by omega)
    have hc := Int.emod_lt_of_pos t (b := ((hs.length : Nat) : Int)) (by omega)
    have hj : (t % ((hs.length : Nat) : Int)).toNat < hs.length := by omega
    refine ⟨_, rfl, _, rfl, _, rfl, a, _, rfl, .inr ea, ?_⟩
    have ex : atI (hs.map V.int) (t % (((hs.map V.int).length : Nat) : Int)) = some (V.int hs[(t % ((hs.length : Nat) : Int)).toNat]) := by
      rw [List.length_map]
      obtain ⟨j, ej⟩ : ∃ j : Nat, t % ((hs.length : Nat) : Int) = (j : Int) := ⟨(t % ((hs.length : Nat) : Int)).toNat, by omega⟩
      have hj2 : j < hs.length := by omega
      refine (congrArg (atI (hs.map V.int)) ej).trans ((atI_nat (v := V.int hs[j]) ?_).trans ?_)
      · rw [List.getElem?_map, List.getElem?_eq_getElem hj2]
        rfl
      · congr 2
        congr 1
        omega
    refine ⟨_, _, rfl, rfl, by rw [List.length_map]; omega, a, _, _, _, rfl, rfl, ea, ex, rfl, ?_⟩
    have e : decide (V.int hs[(t % ((hs.length : Nat) : Int)).toNat] = V.int 1) = openI hs t := by
      unfold openI
      rw [List.getElem?_eq_getElem hj, Bool.eq_iff_iff]
      simp
    rw [e]
    exact k
theorem sc_nopenK : FnScope ["hours", "moment"] ["hours", "moment"] (defScope s_next_open) := ⟨rfl, rfl, rfl, by decide +kernel, rfl, by decide +kernel, by decide +kernel⟩
theorem ok_nopenK (T : D K mg) : FnOk P w K mg base CX0 2 T.f_next_open T.d_next_open ["hours", "moment"] (spNOpenK K) := by
  refine T.U_next_open.ok sc_nopenK (fun vs H Q E h => ?_) (fun cdv A outer s H vs Q E hr h => ?_)
  · obtain ⟨hv, hs, t, rfl, _⟩ := h
    rfl
  · obtain ⟨hv, hs, t, rfl, hH, ⟨j, hj, e1⟩, k⟩ := h
    have nd := sc_nopenK.nd
    refine ⟨_, pss_cons (ps_while PassesOwn.never (pt_not (pt_val (pe_call (ok_opensK T) hr rfl T.g_opens T.U_opens.kp T.b_opens .nil pass0 (pa_cons (pv 0) (pa_cons (pv 1) pa_nil)))))
        (pss_one (ps_aug (i := 1) nd rfl (.inl rfl) pe_int ip_add)))
      (pss_one (ps_ret (pv 1))), ?_⟩
    obtain ⟨s0, h1, h2⟩ := open_soon hj e1 t
    refine ⟨fun m σ H' => H' = H ∧ ∃ u : Int, σ = [some hv, some (.int u)] ∧ t ≤ u ∧ (∀ v, t ≤ v → openI hs v = true → u ≤ v) ∧ m = (t + (s0 : Int) - u).toNat, ⟨_, rfl, t, rfl, Int.le_refl _, fun v hv _ => hv, rfl⟩, ?_⟩
    rintro m σ H' ⟨rfl, u, rfl, tu, lu, rfl⟩
    refine ⟨_, rfl, _, rfl, hv, hs, u, rfl, hH, by omega, _, rfl, ?_⟩
    cases ho : openI hs u with
    | true => exact ⟨_, rfl, k u ho tu lu⟩
    | false =>
      have hlt : u < t + (s0 : Int) := by
        have := lu _ (by omega) h2
        by_cases z : u = t + (s0 : Int)
        · rw [z, h2] at ho; cases ho
        · omega
      refine ⟨fun σ' H2 => H2 = H' ∧ ∃ v : Int, σ' = [some hv, some (.int v)] ∧ t ≤ v ∧ (∀ x, t ≤ x → openI hs x = true → v ≤ x) ∧ v = u + 1, ?_, ?_⟩
      · rintro σ' H2 ⟨rfl, v, rfl, tv, lv, rfl⟩
        exact ⟨_, by omega, rfl, u + 1, rfl, tv, lv, rfl⟩
      · refine ⟨_, rfl, _, _, rfl, rfl, rfl, u + 1, rfl, by omega, fun x hx hox => ?_, rfl⟩
        have := lu x hx hox
        by_cases z : x = u
        · rw [z, ho] at hox; cases hox
        · omega
theorem sc_nextK : FnScope ["rules", "asks", "since", "limits", "hours", "bounds", "most", "wide"] ["rules", "asks", "since"] (defScope s_next_ask) := ⟨rfl, rfl, rfl, by decide +kernel, rfl, by decide +kernel, by decide +kernel⟩
theorem ok_nextK (T : D K mg) : FnOk P w K mg base CX0 3 T.f_next_ask T.d_next_ask ["rules", "asks", "since"] (spNextK K) := by
  refine T.U_next_ask.ok sc_nextK (fun vs H Q E h => ?_) (fun cdv A outer s H vs Q E hr h => ?_)
  · obtain ⟨rv, r, st, ps, hs, rs, rfl, _⟩ := h
    rfl
  · obtain ⟨rv, r, st, ps, hs, rs, rfl, hR, hl4, hp, ho, er, hrl, k⟩ := h
    have nd := sc_nextK.nd
    have mz : 5000 ≤ sizeLine := by decide
    refine ⟨_, pss_cons (ps_asg (pv 0) (pg_tup rfl (pgs_cons (pg_name (i := 3) nd rfl (.inl rfl)) (pgs_cons (pg_name (i := 4) nd rfl (.inl rfl)) pgs_nil))))
      (pss_cons (ps_setLc (i := 5) (own := [("most", 6), ("wide", 7)]) (g := gTup _ 2 (gCons (gName 6) (gCons (gName 7) gNil))) rfl nd rfl rfl (sw_true rfl rfl rfl (by decide +kernel)) (pi_tup (pv 3)) (blkOk_by (N := ["rules", "asks", "since", "limits", "hours", "bounds", "most", "wide"]) (sc := defScope s_next_ask) (by decide +kernel)) (fun _ _ _ _ _ => pg_tup rfl (pgs_cons (pg_name (i := 6) nd rfl (.inl rfl)) (pgs_cons (pg_name (i := 7) nd rfl (.inl rfl)) pgs_nil))) (fun _ _ _ _ _ => (pts_one (pt_cmpR op_ge (pe_callB call_len_seqB (by rfl) T.len PySem.boot_len (pa_cons (pv 1) pa_nil)) (pv 6) (nomark _)))) (fun _ _ _ _ _ => pe_op op_add (pe_ix ix_listB (pv 1) (pe_un un_neg (pv 6)) (fun _ _ => rfl)) (pv 7)))
      (pss_one (ps_ret (pe_call (ok_nopenK T) hr rfl T.g_next_open T.U_next_open.kp T.b_next_open .nil pass0 (pa_cons (pv 4) (pa_cons (pe_callB (cr_max rfl) (by rfl) T.max (by decide +kernel) (pa_cons (pe_op op_cat (pe_op op_cat (pv 5) (pe_callTy call_list_of (by rfl) T.list (by decide +kernel) (pa_cons (pe_slice sl_list (pv 1) (po_some (pe_un un_neg pe_int)) po_none) pa_nil))) (pe_lst (pa_cons (pv 2) pa_nil))) pa_nil)) pa_nil)))))), ?_⟩
    obtain ⟨ra, lv, hv, rfl, era, oL, oH⟩ := hR
    refine ⟨_, rfl, ra, _, rfl, SqT.of era, rfl, _, _, rfl, _, _, rfl, rfl, ?_⟩
    obtain ⟨la, ls, rfl, el, ol⟩ := od_tup oL
    have lls : ls.length = ps.length := by rw [ol.len, List.length_map, List.length_map]
    refine ⟨_, rfl, la, rfl, ⟨_, SqT.of el⟩, fun D hD => lc_tup (K := K) (a := la) (xs := ls) (fun i Hx => Same H Hx ∧ ∃ bs : List Int, Hx D = some (.lst (bs.map V.int)) ∧ bs.length ≤ i ∧ (∀ b ∈ bs, ∀ u, ps.all (apI rs u) = true → b ≤ u) ∧ (∀ j (hj : j < ps.length), j < i → ∀ u, (∀ b ∈ bs, b ≤ u) → apI rs u ps[j] = true)) ⟨same_upd hD, [], upd_same, Nat.le_refl _, (fun _ h => nomatch h), fun _ _ h => absurd h (Nat.not_lt_zero _)⟩ (fun i Hx _ q => SqT.of (q.1 _ _ el)) ?_ ?_⟩
    · rintro i x Hx hx ⟨sx, bs, eb, lb, b1, b2⟩
      obtain ⟨q, b, hpm, rfl, eb'⟩ := pair_at ol hx
      obtain ⟨hmp, hpe⟩ := List.getElem?_eq_some_iff.mp hpm
      have hpp := hp q (List.mem_of_getElem? hpm)
      have nDr := ne_of_none er hD
      refine ⟨b, _, rfl, SqT.of (sx _ _ eb'), rfl, _, _, rfl, _, _, rfl, rfl, rfl, ?_⟩
      refine ⟨_, rfl, r, _, rfl, .inl (SqL.of (sx _ _ er)), _, rfl, _, _, rfl, rfl, _, rfl, ?_⟩
      rw [List.length_map]
      refine ite2 (fun h => ?_) (fun h => ?_)
      · have h := of_decide_eq_true h
        obtain ⟨x, hxx⟩ := atI_some (ns := rs) hpp (by omega)
        refine ⟨_, rfl, _, rfl, _, rfl, r, _, _, V.int x, rfl, rfl, SqL.of (sx _ _ er), atI_mapV hxx, _, rfl, _, _, rfl, rfl, _, eb, by rw [List.length_map]; omega, same_into hD sx, bs ++ [x + q.2], by rw [upd_same, List.map_append]; rfl, by rw [List.length_append]; show _ + 1 ≤ _; omega, fun c hc u hu => ?_, fun j hj hji u hu => ?_⟩
        · rcases List.mem_append.mp hc with h1 | h1
          · exact b1 c h1 u hu
          · rw [List.mem_singleton.mp h1]
            have h2 := List.all_eq_true.mp hu q (List.mem_of_getElem? hpm)
            unfold apI at h2
            rw [hxx, decide_eq_false (by omega), Bool.false_or] at h2
            have h2 := of_decide_eq_true h2
            omega
        · by_cases z : j = i
          · subst z
            rw [hpe]
            have := hu (x + q.2) (List.mem_append_right _ (List.mem_singleton.mpr rfl))
            unfold apI
            rw [hxx, Bool.or_eq_true]
            exact .inr (decide_eq_true (by omega))
          · exact b2 j hj (by omega) u fun c hc => hu c (List.mem_append_left _ hc)
      · have h : ¬ q.1 ≤ ((rs.length : Nat) : Int) := fun z => h (decide_eq_true z)
        refine ⟨sx, bs, eb, by omega, b1, fun j hj hji u hu => ?_⟩
        by_cases z : j = i
        · subst z
          rw [hpe]
          unfold apI
          rw [decide_eq_true (show ((rs.length : Nat) : Int) < q.1 by omega), Bool.true_or]
        · exact b2 j hj (by omega) u hu
    · rintro Hx ⟨sx, bs, eb, lb, b1, b2⟩
      rw [lls] at lb b2
      refine gn ?_
      have erx := sx _ _ er
      refine ⟨_, rfl, _, rfl, _, rfl, 1, rfl, _, rfl, ?_⟩
      dsimp only [tNoPart]
      refine ⟨r, _, rfl, SqL.of erx, fun c1 hc1 => ?_⟩
      rw [cut_I]
      have lc : (cutI rs (some (-1)) none).length ≤ 4000 := by
        unfold cutI
        rw [List.length_take, List.length_drop]
        omega
      have sa := same_upd (o := HO.lst ((cutI rs (some (-1)) none).map V.int)) hc1
      refine ⟨c1, _, rfl, .inl (SqL.of upd_same), fun c2 hc2 => ?_⟩
      have sb := same_upd (o := HO.lst ((cutI rs (some (-1)) none).map V.int)) hc2
      refine ⟨D, c2, _, _, rfl, rfl, sb _ _ (sa _ _ eb), upd_same, by rw [List.length_map, List.length_map]; omega, fun c3 hc3 => ?_⟩
      have sc := same_upd (o := HO.lst (bs.map V.int ++ (cutI rs (some (-1)) none).map V.int)) hc3
      refine ⟨_, rfl, by show 1 ≤ sizeLine; omega, fun c4 hc4 => ?_⟩
      have sd := same_upd (o := HO.lst [V.int st]) hc4
      refine ⟨c3, c4, _, _, rfl, rfl, sd _ _ upd_same, upd_same, by rw [List.length_append, List.length_map, List.length_map]; show _ + 1 ≤ sizeLine; omega, fun c5 hc5 => ?_⟩
      have se := same_upd (o := HO.lst (bs.map V.int ++ (cutI rs (some (-1)) none).map V.int ++ [V.int st])) hc5
      refine ⟨c5, bs ++ cutI rs (some (-1)) none ++ [st], rfl, SqL.of (by rw [upd_same, List.map_append, List.map_append]; rfl), by rw [List.length_append]; exact Nat.succ_pos _, fun m hm hle => ?_⟩
      have s5 := sx.trans (sa.trans (sb.trans (sc.trans (sd.trans se))))
      refine ⟨hv, hs, m, rfl, hrsV_same s5 oH, ho, fun u hu mu lu => k u _ ⟨⟨?_, fun x hx => ?_⟩, hu, ?_, fun v pv ov av => lu v ?_ ov⟩ s5⟩
      · have := hle st (List.mem_append_right _ (List.mem_singleton.mpr rfl))
        omega
      · have := hle x (List.mem_append_left _ (List.mem_append_right _ (last_in hx)))
        omega
      · refine List.all_eq_true.mpr fun q hq => ?_
        obtain ⟨j, hj, rfl⟩ := List.getElem_of_mem hq
        exact b2 j hj hj u fun c hc => by
          have := hle c (List.mem_append_left _ (List.mem_append_left _ hc))
          omega
      · rcases List.mem_append.mp hm with h | h
        · rcases List.mem_append.mp h with h | h
          · exact b1 m h v av
          · have h0 : 0 < rs.length := by
              cases hz : rs with
              | nil => rw [hz] at h; cases h
              | cons a l => exact Nat.succ_pos _
            rw [cut_last h0] at h
            rw [List.mem_singleton.mp h]
            exact pv.2 _ (last_at h0)
        · rw [List.mem_singleton.mp h]
          exact pv.1
end
end KP

set_option Elab.async false
set_option maxRecDepth 100000
set_option maxHeartbeats 4000000
set_option linter.all false
/-! Ours: most_between, most_within. -/
namespace KP
open PySem PySem.Spec PyProof.Rows L2 Gr GxR
/-- what most_between answers -/
def MostV (ps : List (Int × Int)) (hs : List Int) (st e : Int) (v : V) : Prop :=
  (ps = [] ∧ ((v = .non ∧ ∃ u, st ≤ u ∧ u < e ∧ openI hs u = true) ∨ (v = .int 0 ∧ ∀ u, st ≤ u → u < e → openI hs u = false))) ∨ (ps ≠ [] ∧ ∃ n : Nat, v = .int n ∧ Mst ps hs st e n)
def spMostB (K : PySem.W.Frag) : Sp := fun vs H Q _ => ∃ (rv : V) (st e : Int) (ps : List (Int × Int)) (hs : List Int), vs = [rv, .int st, .int e] ∧ RulV K H rv ps hs ∧ ps.length ≤ 4 ∧ (∀ p ∈ ps, 1 ≤ p.1 ∧ p.1 ≤ 6 ∧ 1 ≤ p.2) ∧ (∃ j : Nat, ∃ h : j < hs.length, hs[j] = 1) ∧ e ≤ st + 100 ∧ ∀ v H', MostV ps hs st e v → Same H H' → Q v H'
theorem row_short {ps : List (Int × Int)} {hs ts : List Int} {st e : Int} (h0 : ps ≠ []) (hp : ∀ p ∈ ps, 1 ≤ p.1 ∧ p.1 ≤ 6 ∧ 1 ≤ p.2) (sr : SRow ps hs [] st ts) (hlt : ∀ x ∈ ts, x < e) (he : e ≤ st + 100) : ts.length ≤ 606 := by
  obtain ⟨p, l, rfl⟩ := List.exists_cons_of_ne_nil h0
  have hq := hp p (List.mem_cons_self)
  by_cases z : ts.length ≤ 606
  · exact z
  · have g := row_grow (List.mem_cons_self) (K := 6) ⟨hq.1, hq.2.1⟩ (W := 1) hq.2.2 (by decide) sr 100 600 (by omega) (by omega)
    have := hlt _ (List.getElem_mem (l := ts) (n := 600) (by omega))
    have g : st + 1 * (100 : Int) ≤ ts[600] := g
    omega
section
variable {P : Program} {w : World} {K : PySem.W.Frag} {mg : Str → Option Value} {base : Heap}
theorem sc_mostb : FnScope ["rules", "start", "end", "limits", "hours", "asks", "moment"] ["rules", "start", "end"] (defScope s_most_between) := ⟨rfl, rfl, rfl, by decide +kernel, rfl, by decide +kernel, by decide +kernel⟩
theorem ok_mostb (T : D K mg) : FnOk P w K mg base CX0 4 T.f_most_between T.d_most_between ["rules", "start", "end"] (spMostB K) := by
  refine T.U_most_between.ok sc_mostb (fun vs H Q E h => ?_) (fun cdv A outer s H vs Q E hr h => ?_)
  · obtain ⟨rv, st, e, ps, hs, rfl, _⟩ := h
    rfl
  · obtain ⟨rv, st, e, ps, hs, rfl, hR, hl4, hp, ho, he, k⟩ := h
    have nd := sc_mostb.nd
    have mz : 5000 ≤ sizeLine := by decide
    refine ⟨_, pss_cons (ps_asg (pv 0) (pg_tup rfl (pgs_cons (pg_name (i := 3) nd rfl (.inl rfl)) (pgs_cons (pg_name (i := 4) nd rfl (.inl rfl)) pgs_nil))))
      (pss_cons (ps_if (pt_not (pt_truth (pv 3) (fun _ => rfl)))
        (pss_one (ps_ret (pe_ifExp (pt_cmpR op_lt (pe_call (ok_nopenK T) (hr.mono (by decide)) rfl T.g_next_open T.U_next_open.kp T.b_next_open .nil pass0 (pa_cons (pv 4) (pa_cons (pv 1) pa_nil))) (pv 2) (nomark _)) pe_non pe_int)))
        (pss_nil))
      (pss_cons (ps_set (i := 5) nd rfl (.inl rfl) (pe_lst pa_nil))
      (pss_cons (ps_set (i := 6) nd rfl (.inl rfl) (pe_call (ok_nextK T) hr rfl T.g_next_ask T.U_next_ask.kp T.b_next_ask .nil pass0 (pa_cons (pv 0) (pa_cons (pv 5) (pa_cons (pv 1) pa_nil)))))
      (pss_cons (ps_while PassesOwn.never (pt_cmpR op_lt (pv 6) (pv 2) (nomark _))
        (pss_cons (ps_expr (pe_bm PySem.F.plainAttrs_list PySem.F.slot_list_append PySem.F.type_list_append mt_append (pv 5) (pa_cons (pv 6) pa_nil)))
        (pss_one (ps_set (i := 6) nd rfl (.inl rfl) (pe_call (ok_nextK T) hr rfl T.g_next_ask T.U_next_ask.kp T.b_next_ask .nil pass0 (pa_cons (pv 0) (pa_cons (pv 5) (pa_cons (pv 1) pa_nil))))))))
      (pss_one (ps_ret (pe_callB call_len_seq (by rfl) T.len PySem.boot_len (pa_cons (pv 5) pa_nil)))))))), ?_⟩
    have hR0 := hR
    obtain ⟨ra, lv, hv, rfl, era, oL, oH⟩ := hR
    obtain ⟨la, ls, rfl, el, ol⟩ := od_tup oL
    have lls : ls.length = ps.length := by rw [ol.len, List.length_map, List.length_map]
    have hp1 : ∀ p ∈ ps, 1 ≤ p.1 := fun p h => (hp p h).1
    refine ⟨_, rfl, ra, _, rfl, SqT.of era, rfl, _, _, rfl, _, _, rfl, rfl, ?_⟩
    refine ⟨_, rfl, !ls.isEmpty, .inr (.inl ⟨ls, SqT.of el, rfl⟩), ?_⟩
    cases hps : ps with
    | nil =>
      have e0 : ls = [] := List.eq_nil_of_length_eq_zero (by rw [lls, hps]; rfl)
      rw [e0, if_pos (show (!!([] : List V).isEmpty) = true from rfl)]
      refine ⟨_, rfl, _, rfl, hv, hs, st, rfl, oH, ho, fun u hu su lu => ⟨_, rfl, _, _, rfl, rfl, _, rfl, ite2 (fun z => ?_) (fun z => ?_)⟩⟩
      · have z := of_decide_eq_true z
        exact k _ _ (.inl ⟨hps, .inl ⟨rfl, u, su, z, hu⟩⟩) (.refl H)
      · refine k _ _ (.inl ⟨hps, .inr ⟨rfl, fun v v1 v2 => ?_⟩⟩) (.refl H)
        cases hv' : openI hs v with
        | false => rfl
        | true =>
          have := lu v v1 hv'
          exact absurd (decide_eq_true (by omega)) z
    | cons p0 ps0 =>
      have hne : ps ≠ [] := fun h => by rw [hps] at h; cases h
      have e0 : ls.isEmpty = false := by
        cases hl : ls with
        | nil => rw [hl, hps] at lls; cases lls
        | cons a l => rfl
      rw [e0, if_neg (show ¬ (!!false) = true from (by decide))]
      refine next_of ?_
      dsimp only
      refine ⟨by show 0 ≤ sizeLine; omega, fun r hr0 => gn ?_⟩
      have s1 := same_upd (o := HO.lst []) hr0
      have e1 : upd H r (.lst []) r = some (.lst (([] : List Int).map V.int)) := upd_same
      generalize upd H r (.lst []) = H1 at *
      refine ⟨_, rfl, _, rfl, _, rfl, _, r, st, ps, hs, [], rfl, rulV_same s1 hR0, hl4, hp1, ho, e1, Nat.zero_le _, fun t H2 nx s2 => gn ?_⟩
      refine ⟨fun m σ Hx => Same H Hx ∧ ∃ (ts : List Int) (u : Int), σ = [some (.ref ra), some (.int st), some (.int e), some (.ref la), some hv, some (.ref r), some (.int u)] ∧ Hx r = some (.lst (ts.map V.int)) ∧ SRow ps hs [] st ts ∧ (∀ x ∈ ts, x < e) ∧ IsNxt ps hs ts st u ∧ m = 700 - ts.length, ⟨_, s1.trans s2, [], t, rfl, s2 _ _ e1, SRow.nil, (fun _ h => nomatch h), nx, rfl⟩, ?_⟩
      rintro m σ Hx ⟨sx, ts, u, rfl, ex, srow, hlt, hn, rfl⟩
      refine ⟨_, rfl, _, rfl, _, _, rfl, rfl, _, rfl, ite2 (fun z => ?_) (fun z => ?_)⟩
      · have z := of_decide_eq_true z
        have srow' : SRow ps hs [] st (ts ++ [u]) := SRow.snoc srow hn
        have hlt' : ∀ x ∈ ts ++ [u], x < e := fun x hx => by
          rcases List.mem_append.mp hx with h | h
          · exact hlt x h
          · rw [List.mem_singleton.mp h]; exact z
        have hl := row_short hne hp srow' hlt' he
        rw [List.length_append] at hl
        have hl : ts.length + 1 ≤ 606 := hl
        refine ⟨fun σ' H3 => Same H H3 ∧ ∃ (us : List Int) (u' : Int), σ' = [some (.ref ra), some (.int st), some (.int e), some (.ref la), some hv, some (.ref r), some (.int u')] ∧ H3 r = some (.lst (us.map V.int)) ∧ SRow ps hs [] st us ∧ (∀ x ∈ us, x < e) ∧ IsNxt ps hs us st u' ∧ us.length = ts.length + 1, ?_, ?_⟩
        · rintro σ' H3 ⟨s3, us, u', rfl, e3, r3, l3, n3, len3⟩
          exact ⟨700 - us.length, by omega, s3, us, u', rfl, e3, r3, l3, n3, rfl⟩
        · refine ⟨_, rfl, .inl ⟨rfl, _, SqL.of ex⟩, _, rfl, r, _, _, rfl, rfl, ex, by rw [List.length_map]; omega, ?_⟩
          have sy := same_into (o := HO.lst (ts.map V.int ++ [V.int u])) hr0 sx
          have ey : upd Hx r (.lst (ts.map V.int ++ [V.int u])) r = some (.lst ((ts ++ [u]).map V.int)) := by
            rw [upd_same, List.map_append]
            rfl
          generalize upd Hx r (.lst (ts.map V.int ++ [V.int u])) = Hy at *
          refine ⟨_, rfl, _, rfl, _, rfl, _, r, st, ps, hs, ts ++ [u], rfl, rulV_same sy hR0, hl4, hp1, ho, ey, by rw [List.length_append]; show _ + 1 ≤ _; omega, fun u' H4 nx' s4 => gn ?_⟩
          exact ⟨sy.trans s4, ts ++ [u], u', rfl, s4 _ _ ey, srow', hlt', nx', by rw [List.length_append]; rfl⟩
      · have z : ¬ u < e := fun h => z (decide_eq_true h)
        dsimp only
        refine ⟨_, rfl, r, _, rfl, .inl (SqL.of ex), ?_⟩
        rw [List.length_map]
        exact k _ _ (.inr ⟨hne, ts.length, rfl, ts, srow, rfl, hlt, fun t' ht => by rw [ht.one hn]; omega⟩) sx
/-- the hours that are always open -/
theorem hrs_always (T : D K mg) (H : Hp) : HrsV K H (.ref T.a_ALWAYS) [1] := ⟨_, rfl, .inr T.k_ALWAYS⟩
def spMostW (K : PySem.W.Frag) : Sp := fun vs H Q _ => ∃ (lv : V) (m : Int) (ps : List (Int × Int)), vs = [lv, .int m] ∧ Od H lv (.tuple ((ps.map inD).map tw)) ∧ ps.length ≤ 4 ∧ (∀ p ∈ ps, 1 ≤ p.1 ∧ p.1 ≤ 6 ∧ 1 ≤ p.2) ∧ m ≤ 100 ∧ ∀ v H', MostV ps [1] 0 m v → Same H H' → Q v H'
theorem sc_mostw : FnScope ["limits", "moments"] ["limits", "moments"] (defScope s_most_within) := ⟨rfl, rfl, rfl, by decide +kernel, rfl, by decide +kernel, by decide +kernel⟩
theorem ok_mostw (T : D K mg) : FnOk P w K mg base CX0 5 T.f_most_within T.d_most_within ["limits", "moments"] (spMostW K) := by
  refine T.U_most_within.ok sc_mostw (fun vs H Q E h => ?_) (fun cdv A outer s H vs Q E hr h => ?_)
  · obtain ⟨lv, m, ps, rfl, _⟩ := h
    rfl
  · obtain ⟨lv, m, ps, rfl, hL, hl4, hp, hm, k⟩ := h
    have nd := sc_mostw.nd
    refine ⟨_, pss_one (ps_ret (pe_call (ok_mostb T) hr rfl T.g_most_between T.U_most_between.kp T.b_most_between .nil pass0 (pa_cons (pe_tup (pa_cons (pv 0) (pa_cons (pe_glob (v := .ref T.a_ALWAYS) rfl T.g_ALWAYS rfl) pa_nil))) (pa_cons pe_int (pa_cons (pv 1) pa_nil))))), ?_⟩
    have mz : 5000 ≤ sizeLine := by decide
    refine ⟨_, rfl, by show 2 ≤ sizeLine; omega, fun a ha => ?_⟩
    have sa := same_upd (o := HO.tup [lv, V.ref T.a_ALWAYS]) ha
    refine ⟨_, rfl, _, 0, m, ps, [1], rfl, ⟨a, lv, _, rfl, upd_same, hL.same sa, hrs_always T _⟩, hl4, hp, ⟨0, Nat.zero_lt_one, rfl⟩, by omega, fun v H2 hv s2 => k v H2 hv (sa.trans s2)⟩
end
end KP

set_option Elab.async false
set_option maxRecDepth 100000
set_option maxHeartbeats 4000000
set_option linter.all false
/-! Ours: most, most_from, most_table, of right arguments. -/
namespace KP
open PySem PySem.Spec PyProof.Rows L2 Gr GxR
theorem lims_good {ps : List (Int × Int)} (hl : ps.length ≤ 4) (hp : ∀ p ∈ ps, 1 ≤ p.1 ∧ p.1 ≤ 6 ∧ 1 ≤ p.2 ∧ p.2 ≤ 12) : limsD (.tuple ((ps.map inD).map tw)) = true := by
  have g : Good ps [1] := ⟨hl, hp, Nat.zero_lt_one, by decide, fun x hx => by rw [List.mem_singleton.mp hx]; decide, ⟨0, Nat.zero_lt_one, rfl⟩⟩
  have r := g.rules
  have r : (limsD (.tuple ((ps.map inD).map tw)) && hoursD (.tuple ([1].map PyData.int))) = true := r
  rw [Bool.and_eq_true] at r
  exact r.1
def Lm (ps : List (Int × Int)) : Prop := ps.length ≤ 4 ∧ ∀ p ∈ ps, 1 ≤ p.1 ∧ p.1 ≤ 6 ∧ 1 ≤ p.2 ∧ p.2 ≤ 12
theorem Lm.c {ps : List (Int × Int)} (h : Lm ps) : ∀ p ∈ ps, 1 ≤ p.1 ∧ p.1 ≤ 6 ∧ 1 ≤ p.2 := fun p hp => ⟨(h.2 p hp).1, (h.2 p hp).2.1, (h.2 p hp).2.2.1⟩
def spMost (L : List Addr) : Sp := fun vs H Q _ => ∃ (lv : V) (m : Int) (ps : List (Int × Int)), vs = [lv, .int m] ∧ Od H lv (.tuple ((ps.map inD).map tw)) ∧ Lm ps ∧ 0 ≤ m ∧ m ≤ 100 ∧ Tb L H ∧ ∀ v H', MostV ps [1] 0 m v → UpL L H H' → Q v H'
def spMostF (L : List Addr) : Sp := fun vs H Q _ => ∃ (rv : V) (st m : Int) (ps : List (Int × Int)) (hs : List Int), vs = [rv, .int st, .int m] ∧ Od H rv (rulesP ps hs) ∧ Good ps hs ∧ 0 ≤ st ∧ 0 ≤ m ∧ m ≤ 100 ∧ Tb L H ∧ ∀ v H', MostV ps hs st (st + m) v → UpL L H H' → Q v H'
def spMostT (L : List Addr) : Sp := fun vs H Q _ => ∃ (lv : V) (ps : List (Int × Int)), vs = [lv] ∧ Od H lv (.tuple ((ps.map inD).map tw)) ∧ Lm ps ∧ Tb L H ∧ ∀ a xs H', H' a = some (.tup xs) → xs.length = 12 → (∀ (i : Nat) (h : i < xs.length), MostV ps [1] 0 ((i : Int) + 1) xs[i]) → UpL L H H' → Q (.ref a) H'
section
variable {P : Program} {w : World} {K : PySem.W.Frag} {mg : Str → Option Value} {base : Heap}
end
end KP

set_option Elab.async false
set_option maxRecDepth 100000
set_option maxHeartbeats 4000000
set_option linter.all false
/-! Ours: any(elt for a, b in e) with captured names; quiet code: a + b, a > b, a <= b. -/
namespace Gr
open PySem PySem.Spec PyProof.Rows L2 GxR
theorem pair_any {f : PyData × PyData → Bool} (l : List (PyData × PyData)) : (l.map tw).any (pairB f) = l.any f := by
  rw [List.any_map]
  rfl
section
variable {X : Cx} {pins : List (Addr × Obj)} {σ : L2.St} {H : Hp} {s : Shared}
def tAnyTF (K : PySem.W.Frag) (P : Addr) (is : List Nat) (dom : List PyData → PyData × PyData → Prop) (pb : List PyData → PyData × PyData → Bool) (te : TE) : TE := fun σ H Q => te σ H fun v H1 => ∃ (pr : List (PyData × PyData)) (fd : List PyData), Dq K H1 v (.tuple (pr.map tw)) ∧ CapD K H1 σ is fd ∧ (∀ q ∈ pr, dom fd q) ∧ TabG H1 P ∧ ∀ H2, Tabbed P H1 H2 → Q (.bl (pr.any (pb fd))) H2
/-- any(elt for a, b in e), e a tuple of pairs -/
theorem pe_anyTF {c P : Addr} {elt iter : Expr} {xa xb : Str} {qa qb qt p pos gpos : Pos} {kt : Nat} {scope : Scope} {xs : List Str} {is : List Nat} {dom : List PyData → PyData × PyData → Prop} {pb : List PyData → PyData × PyData → Bool} {te : TE} {k : Nat}
    (hr : Room (k + 1) X.A) (hg : Gl X "any") (hm : X.mg "any" = none) (TB : TabB X.base X.mg c P) (hcode : X.env.code = .ref c) (S : GenTF X scope xa xb xs is) (hi : PE X iter te) (hel : EltTF X k scope xa xb xs elt dom pb)
    (hs : ∀ v, genFold iter X.env v = pure v)
    (he : starEach [.GeneratorExp elt [⟨.Tuple [.Name xa qa, .Name xb qb] kt qt, iter, [], 0⟩] scope gpos] X.env = (false, eval (.GeneratorExp elt [⟨.Tuple [.Name xa qa, .Name xb qb] kt qt, iter, [], 0⟩] scope gpos) X.env) :: starEach [] X.env := by rfl) :
    PE X (.Call (.Name "any" p) [.GeneratorExp elt [⟨.Tuple [.Name xa qa, .Name xb qb] kt qt, iter, [], 0⟩] scope gpos] [] pos) (tAnyTF X.K P is dom pb te) := by
  refine ⟨fun pins s σ H Q I h => wpAny_Call_Name_kw (ld_blt I hg hm boot_any (PyProof.Rows.callWith_builtin1 ?_ he (by rfl)))⟩
  rw [he]
  show wpAny _ _ (spliced ((false, eval (.GeneratorExp elt [⟨.Tuple [.Name xa qa, .Name xb qb] kt qt, iter, [], 0⟩] scope gpos) X.env) :: backTo pos (starEach [] X.env))) _ _ s
  refine Calls.spliced_cons (genTF (R := fun pr fd H1 => ∀ H2, Tabbed P H1 H2 → Q (.bl (pr.any (pb fd))) H2) hr TB hcode S hi hel hs I h ?_)
  rintro pr fd H1 g z hR ⟨fp, wr, G, F, St, W, hst, htr, hI⟩
  refine Calls.spliced_nil (call_any_walkS (W.self 0 _ _ _ hst ⟨g, fp, wr, G, _, F, St, _, rfl, W, hst, htr, fun s' mv => ?_⟩))
  obtain ⟨H2, hT, J⟩ := hI s' mv
  rw [trD_any (pairB (pb fd)) (pr.map tw), pair_any]
  exact ⟨.bl _, H2, J, rfl, hR H2 hT⟩
end
section
variable {P : Program} {w : World} {K : PySem.W.Frag} {mg : Str → Option Value} {base h0 : Heap} {k : Nat} {env : Env} {m : Str → Option Value}
theorem qe_add {a b : Expr} {i j : Int} {pos : Pos} (ha : QE P w base h0 k env m a (.int i)) (hb : QE P w base h0 k env m b (.int j)) : QE P w base h0 k env m (.BinOp a .Add b pos) (.int (i + j)) := by
  intro B E z q
  refine wpAny_BinOp (thn (ha B E z q) fun u z1 ⟨r1, k1⟩ => thn (hb B E z1 (q.next k1)) fun v z2 ⟨r2, k2⟩ => ?_)
  obtain ⟨t, rfl⟩ := vd_int r1
  obtain ⟨t', rfl⟩ := vd_int r2
  exact add_int ⟨⟨_, .int _ _⟩, kt k1 (kt k2 (keeps_tok _ _))⟩
theorem qe_gt {a b : Expr} {i j : Int} {pos : Pos} (ha : QE P w base h0 k env m a (.int i)) (hb : QE P w base h0 k env m b (.int j)) (hm : behindInMarks .Gt b = false := by with_unfolding_all rfl) : QE P w base h0 k env m (.Compare a [.Gt] [b] pos) (.bool (decide (j < i))) :=
  qe_cmp (c := fun i j => decide (j < i)) ha hb (fun q => gt_int q) hm
end
end Gr

set_option Elab.async false
set_option maxRecDepth 100000
set_option maxHeartbeats 4000000
set_option linter.all false
/-! Ours: data of tuples alone: it stands as long as the tuples stand; lists of such that grow; cuts between statements. -/
namespace Gr
open PySem PySem.Spec PyProof.Rows L2 GxR
mutual
/-- no list and no dict within -/
def tupD : PyData → Bool
  | .none => true
  | .bool _ => true
  | .int _ => true
  | .str _ => true
  | .list _ => false
  | .tuple xs => tupDs xs
  | .dict _ => false
def tupDs : List PyData → Bool
  | [] => true
  | x :: xs => tupD x && tupDs xs
end
theorem tupDs_of : ∀ {ds : List PyData}, (∀ d ∈ ds, tupD d = true) → tupDs ds = true
  | [], _ => by simp [tupDs]
  | d :: ds, h => by
    simp only [tupDs, Bool.and_eq_true]
    exact ⟨h d List.mem_cons_self, tupDs_of fun x hx => h x (List.mem_cons_of_mem _ hx)⟩
theorem tupDs_mem : ∀ {ds : List PyData}, tupDs ds = true → ∀ d ∈ ds, tupD d = true
  | [], _, d, h => nomatch h
  | e :: ds, h, d, hd => by
    simp only [tupDs, Bool.and_eq_true] at h
    rcases List.mem_cons.mp hd with q | q
    · rw [q]; exact h.1
    · exact tupDs_mem h.2 d q
theorem tupD_tup {ds : List PyData} (h : ∀ d ∈ ds, tupD d = true) : tupD (.tuple ds) = true := by
  simp only [tupD]
  exact tupDs_of h
theorem tupD_ints (ns : List Int) : tupD (.tuple (ns.map PyData.int)) = true := tupD_tup fun d hd => by
  obtain ⟨n, _, rfl⟩ := List.mem_map.mp hd
  simp [tupD]
/-- the tuples stand -/
def TupStay (H H' : Hp) : Prop := ∀ a xs, H a = some (.tup xs) → H' a = some (.tup xs)
theorem TupStay.refl (H : Hp) : TupStay H H := fun _ _ e => e
theorem TupStay.trans {H H1 H2 : Hp} (a : TupStay H H1) (b : TupStay H1 H2) : TupStay H H2 := fun x xs e => b x xs (a x xs e)
theorem same_ts {H H' : Hp} (s : Same H H') : TupStay H H' := fun a xs e => s a _ e
theorem stay_ts {H H' : Hp} (s : Stay H H') : TupStay H H' := fun a xs e => s a _ e fun _ q => nomatch q
theorem ts_but {H H' : Hp} {p : Addr} {ys : List V} (e : H p = some (.lst ys)) (b : ∀ b o, H b = some o → b ≠ p → H' b = some o) : TupStay H H' := fun a xs q => b a _ q fun z => by
  rw [z, e] at q
  cases q
theorem ts_put {H : Hp} {D : Addr} {ys : List V} {o : HO} (e : H D = some (.lst ys)) : TupStay H (upd H D o) := fun a xs q => (upd_ne fun z => by
  rw [z, e] at q
  cases q).trans q
theorem ts_new {H : Hp} {D : Addr} {o : HO} (e : H D = none) : TupStay H (upd H D o) := fun a xs q => (upd_ne fun z => by
  rw [z, e] at q
  cases q).trans q
mutual
theorem Od.ts {H H' : Hp} (s : TupStay H H') : ∀ {v : V} {d : PyData}, Od H v d → tupD d = true → Od H' v d
  | _, _, .non, _ => .non
  | _, _, .bl b, _ => .bl b
  | _, _, .int i, _ => .int i
  | _, _, .str x, _ => .str x
  | _, _, .lst e a, h => by simp [tupD] at h
  | _, _, .tup e a, h => .tup (s _ _ e) (OdAll.ts s a (by simpa [tupD] using h))
  | _, _, .dic e a b, h => by simp [tupD] at h
theorem OdAll.ts {H H' : Hp} (s : TupStay H H') : ∀ {vs : List V} {ds : List PyData}, OdAll H vs ds → tupDs ds = true → OdAll H' vs ds
  | _, _, .nil, _ => .nil
  | _, _, .cons a b, h => by
    simp only [tupDs, Bool.and_eq_true] at h
    exact .cons (Od.ts s a h.1) (OdAll.ts s b h.2)
end
theorem Od.unhide {H : Hp} {ls : List Addr} {v : V} {d : PyData} (o : Od (hide H ls) v d) : Od H v d := o.same (hide_same _ _)
/-- at D a list of data of tuples -/
def LstT (H : Hp) (D : Addr) (ds : List PyData) : Prop := ∃ vs, H D = some (.lst vs) ∧ OdAll H vs ds ∧ tupDs ds = true
theorem LstT.at {H : Hp} {D : Addr} (e : H D = some (.lst [])) : LstT H D [] := ⟨[], e, .nil, by simp [tupDs]⟩
theorem LstT.ts {H H' : Hp} {D : Addr} {ds : List PyData} (h : LstT H D ds) (s : TupStay H H') (e : ∀ vs, H D = some (.lst vs) → H' D = some (.lst vs)) : LstT H' D ds :=
  let ⟨vs, a, b, t⟩ := h; ⟨vs, e _ a, b.ts s t, t⟩
theorem LstT.same {H H' : Hp} {D : Addr} {ds : List PyData} (h : LstT H D ds) (s : Same H H') : LstT H' D ds := h.ts (same_ts s) fun vs e => s _ _ e
theorem tupDs_app {ds es : List PyData} (h : tupDs ds = true) (k : tupDs es = true) : tupDs (ds ++ es) = true := tupDs_of fun d hd => by
  rcases List.mem_append.mp hd with q | q
  · exact tupDs_mem h d q
  · exact tupDs_mem k d q
theorem LstT.put {H : Hp} {D : Addr} {ds : List PyData} {vs : List V} {v : V} {d : PyData} (h : LstT H D ds) (e : H D = some (.lst vs)) (o : Od H v d) (t : tupD d = true) : LstT (upd H D (.lst (vs ++ [v]))) D (ds ++ [d]) := by
  obtain ⟨us, a, b, td⟩ := h
  obtain rfl : us = vs := by rw [a] at e; cases e; rfl
  have s : TupStay H (upd H D (.lst (us ++ [v]))) := ts_put a
  have t1 : tupDs [d] = true := by simp [tupDs, t]
  exact ⟨_, upd_same, (b.ts s td).app ((OdAll.cons o .nil).ts s t1), tupDs_app td t1⟩
theorem LstT.len {H : Hp} {D : Addr} {ds : List PyData} {vs : List V} (h : LstT H D ds) (e : H D = some (.lst vs)) : vs.length = ds.length := by
  obtain ⟨us, a, b, _⟩ := h
  rw [a] at e
  cases e
  exact b.len
/-- its things as a new tuple -/
theorem LstT.tup {H : Hp} {D R : Addr} {ds : List PyData} {vs : List V} (h : LstT H D ds) (e : H D = some (.lst vs)) (hR : H R = none) : Od (upd H R (.tup vs)) (.ref R) (.tuple ds) := by
  obtain ⟨us, a, b, td⟩ := h
  rw [a] at e
  cases e
  exact .tup upd_same (b.ts (ts_new hR) td)
theorem od_at {H : Hp} : ∀ {vs : List V} {ds : List PyData}, OdAll H vs ds → ∀ {i : Nat} {v : V}, vs[i]? = some v → ∃ d, ds[i]? = some d ∧ Od H v d
  | _, _, .nil, _, _, e => by cases e
  | _, _, .cons a b, 0, _, e => by
    cases e
    exact ⟨_, rfl, a⟩
  | _, _, .cons a b, i + 1, v, e => od_at b (i := i) (by simpa using e)
/-- a statement, then what follows, by what stands between them -/
theorem cut1 {A C : TS} {D : Ends} {σ : L2.St} {H : Hp} (R : L2.St → Hp → Prop) (ha : ∀ N : L2.St → Hp → Prop, (∀ σ' H', R σ' H' → N σ' H') → A { D with nx := N } σ H) (hc : ∀ σ' H', R σ' H' → C D σ' H') : tSeq A C D σ H := ha (C D) hc
/-- two statements, then what follows -/
theorem cut2 {A B C : TS} {D : Ends} {σ : L2.St} {H : Hp} (R : L2.St → Hp → Prop) (ha : ∀ N : L2.St → Hp → Prop, (∀ σ' H', R σ' H' → N σ' H') → tSeq A B { D with nx := N } σ H) (hc : ∀ σ' H', R σ' H' → C D σ' H') : tSeq A (tSeq B C) D σ H := ha (C D) hc
end Gr

set_option Elab.async false
set_option maxRecDepth 100000
set_option maxHeartbeats 4000000
set_option linter.all false
/-! Ours: shares, parts. -/
namespace KP
open PySem PySem.Spec PyProof.Rows L2 Gr GxR
abbrev limP (ps : List (Int × Int)) : PyData := .tuple ((ps.map inD).map tw)
theorem tup_pair (q : Int × Int) : tupD (tw (inD q)) = true := by simp [tw, inD, tupD, tupDs]
theorem tup_lim (ps : List (Int × Int)) : tupD (limP ps) = true := tupD_tup fun d hd => by
  obtain ⟨q, hq, rfl⟩ := List.mem_map.mp hd
  obtain ⟨p, _, rfl⟩ := List.mem_map.mp hq
  exact tup_pair p
def partP (c : List (Int × Int) × Int) : PyData := .tuple [limP c.1, .int c.2]
theorem tup_part (c : List (Int × Int) × Int) : tupD (partP c) = true := tupD_tup fun d hd => by
  simp only [List.mem_cons, List.not_mem_nil, or_false] at hd
  rcases hd with rfl | rfl
  · exact tup_lim _
  · simp [tupD]
def PartOk (c : List (Int × Int) × Int) : Prop := Lm c.1 ∧ 0 ≤ c.2 ∧ c.2 ≤ 24
def shareP (ps : List (Int × Int)) (n D i : Int) : List (Int × Int) := ps.map fun p => (p.1 / n + (if i < p.1 % n then 1 else 0), p.2 + D)
def spShare : Sp := fun vs H Q _ => ∃ (sv : V) (n D i : Int) (ps : List (Int × Int)), vs = [sv, .int n, .int D, .int i] ∧ Od H sv (limP ps) ∧ Lm ps ∧ 1 ≤ n ∧ n ≤ 6 ∧ ∀ z H', Same H H' → Od H' z (limP (shareP ps n D i)) → Q z H'
def spPart (L : List Addr) : Sp := fun vs H Q _ => ∃ (v : V) (c : List (Int × Int) × Int), vs = [v] ∧ Od H v (partP c) ∧ PartOk c ∧ Tb L H ∧ ∀ H', UpL L H H' → Q (.bl true) H'
def spParts (L : List Addr) : Sp := fun vs H Q _ => ∃ (v : V) (cs : List (List (Int × Int) × Int)), vs = [v] ∧ Od H v (.tuple (cs.map partP)) ∧ 1 ≤ cs.length ∧ cs.length ≤ 6 ∧ (∀ c ∈ cs, PartOk c) ∧ Tb L H ∧ ∀ H', UpL L H H' → Q .non H'
section
variable {P : Program} {w : World} {K : PySem.W.Frag} {mg : Str → Option Value} {base : Heap}
theorem sc_share : FnScope ["shared", "many", "late", "crawler", "pairs", "most", "wide", "more"] ["shared", "many", "late", "crawler"] (defScope s_share_of) := ⟨rfl, rfl, rfl, by decide +kernel, rfl, by decide +kernel, by decide +kernel⟩
theorem ok_share (T : D K mg) : FnOk P w K mg base CX0 1 T.f_share_of T.d_share_of ["shared", "many", "late", "crawler"] spShare := by
  refine T.U_share_of.ok sc_share (fun vs H Q E h => ?_) (fun cdv A outer s H vs Q E hr h => ?_)
  · obtain ⟨sv, n, D, i, ps, rfl, _⟩ := h
    rfl
  · obtain ⟨sv, n, D, i, ps, rfl, hS, hg, n1, n6, k⟩ := h
    have nd := sc_share.nd
    have mz : 5000 ≤ sizeLine := by decide
    refine ⟨_, pss_cons (ps_set (i := 4) nd rfl (.inl rfl) (pe_lst pa_nil))
      (pss_cons (ps_for PassesOwn.never rfl (pi_tup (pv 0)) (pg_tup rfl (pgs_cons (pg_name (i := 5) nd rfl (.inl rfl)) (pgs_cons (pg_name (i := 6) nd rfl (.inl rfl)) pgs_nil)))
        (pss_cons (ps_set (i := 7) nd rfl (.inl rfl) (pe_ifExp (pt_cmpR op_lt (pv 3) (pe_op op_modN (pv 5) (pv 1)) (nomark _)) pe_int pe_int))
        (pss_one (ps_expr (pe_bm PySem.F.plainAttrs_list PySem.F.slot_list_append PySem.F.type_list_append mt_append (pv 4) (pa_cons (pe_tup (pa_cons (pe_op op_add (pe_op op_fdivN (pv 5) (pv 1)) (pv 7)) (pa_cons (pe_op op_add (pv 6) (pv 2)) pa_nil))) pa_nil))))))
      (pss_one (ps_ret (pe_callTy call_tuple_of (by rfl) T.tuple (by decide +kernel) (pa_cons (pv 4) pa_nil))))), ?_⟩
    obtain ⟨la, ls, rfl, el, ol⟩ := od_tup hS
    have lls : ls.length = ps.length := by rw [ol.len, List.length_map, List.length_map]
    refine ⟨by show 0 ≤ sizeLine; omega, fun Dn hDn => gn ?_⟩
    have s0 := same_upd (o := HO.lst []) hDn
    refine ⟨_, rfl, la, rfl, ⟨_, SqT.of (s0 _ _ el)⟩, for_tup (K := K) (a := la) (xs := ls) (fun j σ H5 => (∃ us, H5 Dn = some (.lst us) ∧ us.length = j) ∧ LstT H5 Dn (((shareP (ps.take j) n D i).map inD).map tw) ∧ (∀ b o, H b = some o → H5 b = some o) ∧ ∃ (v5 v6 v7 : Option V), σ = [some (.ref la), some (.int n), some (.int D), some (.int i), some (.ref Dn), v5, v6, v7]) ⟨⟨[], upd_same, rfl⟩, LstT.at upd_same, s0, _, _, _, rfl⟩ (fun j σ H5 _ q => SqT.of (q.2.2.1 _ _ el)) ?_ ?_⟩
    · rintro j x σ H5 hx ⟨⟨us, eu, lu⟩, lt, hold, v5, v6, v7, rfl⟩
      obtain ⟨q, b, hqm, rfl, eb⟩ := pair_at ol hx
      have hj := (List.getElem?_eq_some_iff.mp hqm).1
      have hq := hg.2 q (List.mem_of_getElem? hqm)
      refine ⟨_, _, rfl, SqT.of (hold _ _ eb), rfl, _, _, rfl, _, _, rfl, rfl, ?_⟩
      dsimp only
      refine cut1 (fun σ' H' => H' = H5 ∧ σ' = [some (.ref la), some (.int n), some (.int D), some (.int i), some (.ref Dn), some (.int q.1), some (.int q.2), some (.int (if i < q.1 % n then 1 else 0))]) (fun N hN => ?_) ?_
      · refine ⟨_, rfl, _, rfl, _, rfl, q.1, n, rfl, rfl, by omega, _, _, rfl, rfl, _, rfl, ?_⟩
        rw [Int.fmod_eq_emod_of_nonneg _ (by omega)]
        refine ite2 (fun h => ?_) (fun h => ?_)
        · refine gn (hN _ _ ⟨rfl, ?_⟩)
          rw [if_pos (of_decide_eq_true h)]
          rfl
        · refine gn (hN _ _ ⟨rfl, ?_⟩)
          rw [if_neg (fun z => h (decide_eq_true z))]
          rfl
      · rintro σ' H' ⟨rfl, rfl⟩
        refine ⟨_, rfl, .inl ⟨rfl, _, SqL.of eu⟩, _, rfl, _, rfl, q.1, n, rfl, rfl, ⟨by omega, by omega⟩, _, rfl, _, _, rfl, rfl, _, rfl, _, rfl, _, _, rfl, rfl, by show 2 ≤ sizeLine; omega, fun t ht => ?_⟩
        rw [Int.fdiv_eq_ediv_of_nonneg _ (by omega)]
        have st := same_upd (o := HO.tup [V.int (q.1 / n + (if i < q.1 % n then 1 else 0)), V.int (q.2 + D)]) ht
        have et : upd H' t (.tup [V.int (q.1 / n + (if i < q.1 % n then 1 else 0)), V.int (q.2 + D)]) t = some (.tup [V.int (q.1 / n + (if i < q.1 % n then 1 else 0)), V.int (q.2 + D)]) := upd_same
        replace lt := lt.same st
        replace eu := st _ _ eu
        replace hold := fun b o e => st _ _ (hold b o e)
        generalize upd H' t (.tup [V.int (q.1 / n + (if i < q.1 % n then 1 else 0)), V.int (q.2 + D)]) = H6 at *
        refine ⟨Dn, _, _, rfl, rfl, eu, by have := hg.1; omega, ?_⟩
        refine ⟨⟨_, upd_same, by rw [List.length_append, lu]; rfl⟩, ?_, fun b' o e => (upd_ne (ne_of_none e hDn)).trans (hold b' o e), _, _, _, rfl⟩
        have e2 : ((shareP (ps.take (j + 1)) n D i).map inD).map tw = ((shareP (ps.take j) n D i).map inD).map tw ++ [tw (inD (q.1 / n + (if i < q.1 % n then 1 else 0), q.2 + D))] := by
          unfold shareP
          rw [List.take_add_one, hqm, List.map_append, List.map_append, List.map_append]
          rfl
        rw [e2]
        exact lt.put eu (.tup et (.cons (.int _) (.cons (.int _) .nil))) (tup_pair _)
    · rintro σ H5 ⟨⟨us, eu, lu⟩, lt, hold, v5, v6, v7, rfl⟩
      rw [lls, List.take_length] at lt
      refine ⟨_, rfl, Dn, _, rfl, .inl ⟨SqL.of eu, fun R hR => ?_⟩⟩
      refine k _ _ (fun b o e => same_upd hR _ _ (hold b o e)) (lt.tup eu hR)
theorem sc_part : FnScope ["value"] ["value"] (defScope s_is_part) := ⟨rfl, rfl, rfl, by decide +kernel, rfl, by decide +kernel, by decide +kernel⟩
theorem ok_part (T : D K mg) (TB : Tabs base T) : FnOk P w K mg base CX0 6 T.f_is_part T.d_is_part ["value"] (spPart (tabs T)) := by
  refine T.U_is_part.ok sc_part (fun vs H Q E h => ?_) (fun cdv A outer s H vs Q E hr h => ?_)
  · obtain ⟨v, c, rfl, _⟩ := h
    rfl
  · obtain ⟨v, c, rfl, hd, ⟨hl, d0, d1⟩, hT, k⟩ := h
    refine ⟨_, pss_one (ps_ret (pe_and (pe_call (ok_row T) (hr.mono (by decide)) rfl T.g_is_tuple T.U_is_tuple.kp T.b_is_tuple .nil pass0 (pa_cons (pv 0) (pa_cons pe_int (pa_cons pe_int pa_nil)))) (pe_and (pe_call (ok_lims T TB) hr rfl T.g_are_limits T.U_are_limits.kp T.b_are_limits .nil pass0 (pa_cons (pe_ix ix_tup (pv 0) pe_int (fun _ _ => rfl)) pa_nil)) (pe_one (pe_call (ok_betw T) (hr.mono (by decide)) rfl T.g_is_between T.U_is_between.kp T.b_is_between .nil pass0 (pa_cons (pe_ix ix_tup (pv 0) pe_int (fun _ _ => rfl)) (pa_cons pe_int (pa_cons (pe_glob (v := .int 24) rfl T.g_LATEST ⟨_, rfl⟩) pa_nil)))))))), ?_⟩
    refine ⟨_, rfl, v, _, 2, 2, rfl, hd, ?_⟩
    obtain ⟨a, xs, rfl, ea, oa⟩ := od_tup hd
    match xs, oa with
    | [lv, dv], .cons o1 (.cons o2 .nil) =>
    cases o2
    refine ⟨true, rfl, iteT ?_⟩
    refine ⟨_, rfl, a, _, 0, _, rfl, rfl, SqT.of ea, rfl, lv, _, rfl, o1, trivial, hT, fun H1 u1 => ?_⟩
    rw [lims_good hl.1 hl.2]
    refine ⟨true, rfl, iteT ?_⟩
    have st1 := u1.stay hT
    refine ⟨_, rfl, a, _, 1, _, rfl, rfl, SqT.of (st1 _ _ ea fun _ q => nomatch q), rfl, _, .int c.2, 0, 24, rfl, .int _, ?_⟩
    have e : betwD (.int c.2) 0 24 = true := by
      show (decide (0 ≤ c.2) && decide (c.2 ≤ 24)) = true
      rw [decide_eq_true d0, decide_eq_true d1]
      rfl
    rw [e]
    exact k H1 u1
theorem sc_parts : FnScope ["given", "index", "part"] ["given"] (defScope s_check_parts) := ⟨rfl, rfl, rfl, by decide +kernel, rfl, by decide +kernel, by decide +kernel⟩
theorem ok_parts (T : D K mg) (TB : Tabs base T) : FnOk P w K mg base CX0 7 T.f_check_parts T.d_check_parts ["given"] (spParts (tabs T)) := by
  refine T.U_check_parts.ok sc_parts (fun vs H Q E h => ?_) (fun cdv A outer s H vs Q E hr h => ?_)
  · obtain ⟨v, cs, rfl, _⟩ := h
    rfl
  · obtain ⟨v, cs, rfl, hd, l1, l6, hc, hT, k⟩ := h
    have nd := sc_parts.nd
    refine ⟨_, pss_cons (ps_if (pt_not (pt_val (pe_call (ok_row T) (hr.mono (by decide)) rfl T.g_is_tuple T.U_is_tuple.kp T.b_is_tuple .nil pass0 (pa_cons (pv 0) (pa_cons pe_int (pa_cons (pe_glob (v := .int 6) rfl T.g_MOST_PARTS ⟨_, rfl⟩) pa_nil))))))
        (pss_one (ps_never))
        (pss_nil))
      (pss_one (ps_for PassesOwn.never rfl (pi_enumT (by rfl) T.enumerate (pa_cons (pv 0) pa_nil)) (pg_tup rfl (pgs_cons (pg_name (i := 1) nd rfl (.inl rfl)) (pgs_cons (pg_name (i := 2) nd rfl (.inl rfl)) pgs_nil)))
        (pss_one (ps_if (pt_not (pt_val (pe_call (ok_part T TB) hr rfl T.g_is_part T.U_is_part.kp T.b_is_part .nil pass0 (pa_cons (pv 2) pa_nil))))
          (pss_one (ps_never))
          (pss_nil))))), ?_⟩
    refine ⟨_, rfl, v, _, 1, 6, rfl, hd, _, rfl, ?_⟩
    have e : rowD (.tuple (cs.map partP)) 1 6 = true := by
      show (decide ((1 : Int) ≤ ((cs.map partP).length : Nat)) && decide ((((cs.map partP).length : Nat) : Int) ≤ 6)) = true
      rw [List.length_map, decide_eq_true (by omega), decide_eq_true (by omega)]
      rfl
    rw [e]
    refine iteF (next_of ?_)
    dsimp only
    obtain ⟨a, xs, rfl, ea, oa⟩ := od_tup hd
    refine ⟨_, rfl, a, _, rfl, SqT.of ea, for_it (walk_tp (K := K) (a := a) (xs := xs)) (fun i σ H2 => UpL (tabs T) H H2 ∧ ∃ (v1 v2 : Option V), σ = [some (.ref a), v1, v2]) ⟨.refl hT, none, none, rfl⟩ (fun i σ H2 _ q => SqT.of (q.1.stay hT _ _ ea fun _ z => nomatch z)) ?_ ?_⟩
    · rintro i x σ H2 H3 hi ⟨u2, v1, v2, rfl⟩ ⟨Tt, y, rfl, hTn, rfl, hy⟩
      have u3 := u2.trans (.same u2.1 (same_upd (o := HO.tup [V.int (i : Nat), y]) hTn))
      refine ⟨_, _, rfl, SqT.of upd_same, rfl, _, _, rfl, _, _, rfl, rfl, ?_⟩
      dsimp only
      generalize upd H2 Tt (.tup [V.int (i : Nat), y]) = H3 at *
      obtain ⟨c, hcm, oc⟩ := od_at oa hy
      obtain ⟨c, hcc, rfl⟩ : ∃ c' ∈ cs, partP c' = c := List.mem_map.mp (List.mem_of_getElem? hcm)
      refine ⟨_, rfl, y, c, rfl, oc.stay (u3.stay hT), hc c hcc, u3.1, fun H4 u4 => ⟨_, rfl, iteF ?_⟩⟩
      exact ⟨u3.trans u4, _, _, rfl⟩
    · rintro σ H2 ⟨u2, v1, v2, rfl⟩
      exact k H2 u2
end
end KP

set_option Elab.async false
set_option maxRecDepth 100000
set_option maxHeartbeats 4000000
set_option linter.all false
/-! Ours: broken_limit, keep, breaking, most_crawlers. -/
namespace KP
open PySem PySem.Spec PyProof.Rows L2 Gr GxR
open Classical in
/-- the most asks in so many moments -/
noncomputable def mw (ps : List (Int × Int)) (n : Int) : Nat := if h : ∃ m, Mst ps [1] 0 n m then h.choose else 0
theorem mw_of {ps : List (Int × Int)} {n : Int} {m : Nat} (h : Mst ps [1] 0 n m) : mw ps n = m := by
  have e : ∃ m, Mst ps [1] 0 n m := ⟨m, h⟩
  unfold mw
  rw [dif_pos e]
  exact e.choose_spec.one h
noncomputable def toldV (q : Int × Int) (c : List (Int × Int) × Int) : V := if c.1 = [] then .non else .int (mw c.1 (q.2 + c.2) : Nat)
theorem open_one (t : Int) : openI [1] t = true := by
  unfold openI
  rw [show t % (([1] : List Int).length : Nat) = 0 from by show t % 1 = 0; omega]
  rfl
theorem told_of {q : Int × Int} {c : List (Int × Int) × Int} {v : V} (h1 : 1 ≤ q.2 + c.2) (h : MostV c.1 [1] 0 (q.2 + c.2) v) : v = toldV q c := by
  unfold toldV
  rcases h with ⟨e, ⟨rfl, _⟩ | ⟨_, z⟩⟩ | ⟨e, n, rfl, m⟩
  · rw [if_pos e]
  · have := z 0 (Int.le_refl _) (by omega)
    rw [open_one] at this
    cases this
  · rw [if_neg e, mw_of m]
noncomputable def pairB (cs : List (List (Int × Int) × Int)) (q : Int × Int) : Bool := !(cs.any fun c => c.1.isEmpty) && decide ((cs.map fun c => ((mw c.1 (q.2 + c.2) : Nat) : Int)).sum ≤ q.1)
noncomputable def keepB (cs : List (List (Int × Int) × Int)) (ps : List (Int × Int)) : Bool := ps.all (pairB cs)
theorem told_flat (q : Int × Int) (cs : List (List (Int × Int) × Int)) : (cs.map (toldV q)).all flatV = true := List.all_eq_true.mpr fun v hv => by
  obtain ⟨c, _, rfl⟩ := List.mem_map.mp hv
  unfold toldV
  split <;> rfl
theorem told_in (q : Int × Int) (cs : List (List (Int × Int) × Int)) : inV .non (cs.map (toldV q)) = cs.any fun c => c.1.isEmpty := by
  unfold inV
  rw [List.any_map]
  congr 1
  funext c
  show eqV (toldV q c) .non = c.1.isEmpty
  unfold toldV
  cases h : c.1 with
  | nil => rfl
  | cons a l => rfl
theorem told_ints {q : Int × Int} {cs : List (List (Int × Int) × Int)} (h : (cs.any fun c => c.1.isEmpty) = false) : cs.map (toldV q) = (cs.map fun c => ((mw c.1 (q.2 + c.2) : Nat) : Int)).map V.int := by
  rw [List.map_map]
  refine List.map_congr_left fun c hc => ?_
  have := List.any_eq_false.mp h c hc
  unfold toldV
  rw [if_neg (fun z => by rw [z] at this; exact this rfl)]
  rfl
theorem mw_pos {ps : List (Int × Int)} {n : Int} {m : Nat} (h0 : ps ≠ []) (hp : ∀ p ∈ ps, 1 ≤ p.1) (hn : 1 ≤ n) (h : Mst ps [1] 0 n m) : 1 ≤ m := by
  obtain ⟨ts, h1, h2, h3, h4⟩ := h
  cases hts : ts with
  | cons a l => rw [hts] at h2; rw [← h2]; exact Nat.succ_pos _
  | nil =>
    exfalso
    subst hts
    obtain ⟨t, nx⟩ := nxt_some (ps := ps) (hs := [1]) (rs := []) (st := 0) hp ⟨0, Nat.zero_lt_one, rfl⟩
    have a := h4 t nx
    have b := nx.least 0 ⟨Int.le_refl _, fun x hx => by cases hx⟩ (open_one 0) (List.all_eq_true.mpr fun q hq => by
      unfold apI
      rw [decide_eq_true (show (([] : List Int).length : Int) < q.1 by have := hp q hq; show (0 : Int) < q.1; omega), Bool.true_or])
    omega
def spBroken : Sp := fun vs H Q _ => ∃ (pv sv : V) (cs : List (List (Int × Int) × Int)) (ps : List (Int × Int)), vs = [pv, sv] ∧ Od H pv (.tuple (cs.map partP)) ∧ cs.length ≤ 6 ∧ (∀ c ∈ cs, PartOk c) ∧ Od H sv (limP ps) ∧ Lm ps ∧ ∀ v H', Same H H' → ((keepB cs ps = true ∧ v = .non) ∨ (keepB cs ps = false ∧ ∃ a, v = .ref a)) → Q v H'
def spKeep (L : List Addr) : Sp := fun vs H Q _ => ∃ (pv sv : V) (cs : List (List (Int × Int) × Int)) (ps : List (Int × Int)), vs = [pv, sv] ∧ Od H pv (.tuple (cs.map partP)) ∧ 1 ≤ cs.length ∧ cs.length ≤ 6 ∧ (∀ c ∈ cs, PartOk c) ∧ Od H sv (limP ps) ∧ Lm ps ∧ Tb L H ∧ ∀ H', UpL L H H' → Q (.bl (keepB cs ps)) H'
def spBreak (L : List Addr) : Sp := fun vs H Q _ => ∃ (pv sv : V) (cs : List (List (Int × Int) × Int)) (ps : List (Int × Int)), vs = [pv, sv] ∧ Od H pv (.tuple (cs.map partP)) ∧ 1 ≤ cs.length ∧ cs.length ≤ 6 ∧ (∀ c ∈ cs, PartOk c) ∧ Od H sv (limP ps) ∧ Lm ps ∧ keepB cs ps = true ∧ Tb L H ∧ ∀ H', UpL L H H' → Q .non H'
def spMC (L : List Addr) : Sp := fun vs H Q _ => ∃ (lv sv : V) (D : Int) (ls ps : List (Int × Int)), vs = [lv, .int D, sv] ∧ Od H lv (limP ls) ∧ Lm ls ∧ 0 ≤ D ∧ D ≤ 24 ∧ Od H sv (limP ps) ∧ Lm ps ∧ Tb L H ∧
  (ps = [] → ∀ H', UpL L H H' → Q .non H') ∧ (ps ≠ [] → ls = [] → ∀ H', UpL L H H' → Q (.int 0) H') ∧
  (ps ≠ [] → ls ≠ [] → ∀ m H', m ∈ (ps.map fun p => p.1 / ((mw ls (p.2 + D) : Nat) : Int)) → (∀ y ∈ (ps.map fun p => p.1 / ((mw ls (p.2 + D) : Nat) : Int)), m ≤ y) → UpL L H H' → Q (.int m) H')
section
variable {P : Program} {w : World} {K : PySem.W.Frag} {mg : Str → Option Value} {base : Heap}
theorem sc_broken : FnScope ["parts", "shared", "pair", "most", "wide", "told", "limits", "late"] ["parts", "shared"] (defScope s_broken_limit) := ⟨rfl, rfl, rfl, by decide +kernel, rfl, by decide +kernel, by decide +kernel⟩
theorem ok_broken (T : D K mg) : FnOk P w K mg base CX0 6 T.f_broken_limit T.d_broken_limit ["parts", "shared"] spBroken := by
  refine T.U_broken_limit.ok sc_broken (fun vs H Q E h => ?_) (fun cdv A outer s H vs Q E hr h => ?_)
  · obtain ⟨pv, sv, cs, ps, rfl, _⟩ := h
    rfl
  · obtain ⟨pv', sv, cs, ps, rfl, hP, l6, hc, hS, hg, k⟩ := h
    have nd := sc_broken.nd
    have mz : 5000 ≤ sizeLine := by decide
    refine ⟨_, pss_cons (ps_for PassesOwn.never rfl (pi_tup (pv 1)) (pg_name (i := 2) nd rfl (.inl rfl))
        (pss_cons (ps_asg (pv 2) (pg_tup rfl (pgs_cons (pg_name (i := 3) nd rfl (.inl rfl)) (pgs_cons (pg_name (i := 4) nd rfl (.inr rfl)) pgs_nil))))
        (pss_cons (ps_setLc (i := 5) (own := [("limits", 6), ("late", 7)]) (g := gTup _ 2 (gCons (gName 6) (gCons (gName 7) gNil))) (tt := tYes) rfl nd rfl rfl (sw_true rfl rfl rfl (by decide +kernel)) (pi_tup (pv 0)) (blkOk_by (N := ["parts", "shared", "pair", "most", "wide", "told", "limits", "late"]) (sc := defScope s_broken_limit) (by decide +kernel)) (fun _ _ _ _ _ => pg_tup rfl (pgs_cons (pg_name (i := 6) nd rfl (.inl rfl)) (pgs_cons (pg_name (i := 7) nd rfl (.inl rfl)) pgs_nil))) (fun _ _ _ _ _ => pts_nil) (fun _ _ _ _ _ => pe_call (ok_mostw T) hr rfl T.g_most_within T.U_most_within.kp T.b_most_within .nil pass0 (pa_cons (pv 6) (pa_cons (pe_op op_add (pv 4) (pv 7)) pa_nil))))
        (pss_one (ps_if (PW.pt (pw_or (pt_cmpR op_in_seq pe_non (pv 5) rfl) (pw_or1 (pt_cmpR op_gt (pe_callB (cr_sum rfl) (by rfl) T.sum (by decide +kernel) (pa_cons (pv 5) pa_nil)) (pv 3) (nomark _)))))
          (pss_one (ps_ret (pv 2)))
          (pss_nil))))))
      (pss_one (ps_ret pe_non)), ?_⟩
    obtain ⟨pa, pxs, rfl, ep, op⟩ := od_tup hP
    obtain ⟨la, ls, rfl, el, ol⟩ := od_tup hS
    have lls : ls.length = ps.length := by rw [ol.len, List.length_map, List.length_map]
    have lpx : pxs.length = cs.length := by rw [op.len, List.length_map]
    refine ⟨_, rfl, la, rfl, ⟨_, SqT.of el⟩, for_tup (K := K) (a := la) (xs := ls) (fun j σ H5 => Same H H5 ∧ (∀ m (hm : m < ps.length), m < j → pairB cs ps[m] = true) ∧ ∃ (v2 v3 v4 v5 v6 v7 : Option V), σ = [some (.ref pa), some (.ref la), v2, v3, v4, v5, v6, v7]) ⟨.refl _, fun _ _ h => absurd h (Nat.not_lt_zero _), _, _, _, _, _, _, rfl⟩ (fun j σ H5 _ q => SqT.of (q.1 _ _ el)) ?_ ?_⟩
    · rintro j x σ H5 hx ⟨s5, hm, v2, v3, v4, v5, v6, v7, rfl⟩
      obtain ⟨q, b, hqm, rfl, eb⟩ := pair_at ol hx
      obtain ⟨hj, hje⟩ := List.getElem?_eq_some_iff.mp hqm
      have hq := hg.2 q (List.mem_of_getElem? hqm)
      refine gn ?_
      refine ⟨_, rfl, b, _, rfl, SqT.of (s5 _ _ eb), rfl, _, _, rfl, _, _, rfl, rfl, ?_⟩
      refine ⟨_, rfl, pa, rfl, ⟨_, SqT.of (s5 _ _ ep)⟩, fun Dn hDn => lc_tup (K := K) (a := pa) (xs := pxs) (fun i Hx => Same H5 Hx ∧ Hx Dn = some (.lst ((cs.take i).map (toldV q)))) ⟨same_upd hDn, upd_same⟩ (fun i Hx _ z => SqT.of (z.1 _ _ (s5 _ _ ep))) ?_ ?_⟩
      · rintro i x Hx hx ⟨sx, ex⟩
        obtain ⟨d, hdm, od⟩ := od_at op hx
        rw [List.getElem?_map] at hdm
        obtain ⟨c, hcm, rfl⟩ := Option.map_eq_some_iff.mp hdm
        have hcc := hc c (List.mem_of_getElem? hcm)
        obtain ⟨t, txs, rfl, et, ot⟩ := od_tup od
        match txs, ot with
        | [lv, dv], .cons o1 (.cons o2 .nil) =>
        cases o2
        have s5x := s5.trans sx
        refine ⟨t, _, rfl, SqT.of (s5x _ _ et), rfl, _, _, rfl, _, _, rfl, rfl, rfl, ?_⟩
        unfold tYes
        dsimp only
        rw [if_pos rfl]
        refine ⟨_, rfl, _, rfl, _, rfl, _, _, rfl, rfl, lv, q.2 + c.2, c.1, rfl, o1.same s5x, hcc.1.1, hcc.1.c, by have := hcc.2; omega, fun v H6 hv s6 => ?_⟩
        have ev := told_of (q := q) (c := c) (by have := hcc.2; omega) hv
        refine ⟨_, s6 _ _ ex, by rw [List.length_map, List.length_take]; omega, same_into hDn (sx.trans s6), ?_⟩
        rw [upd_same, List.take_add_one, hcm, List.map_append, ev]
        rfl
      · rintro Hx ⟨sx, ex⟩
        rw [lpx, List.take_length] at ex
        refine gn ?_
        refine ⟨_, rfl, Dn, _, rfl, .inl (SqL.of ex), rfl, told_flat q cs, ?_⟩
        rw [if_neg Bool.false_ne_true, told_in]
        refine ⟨_, rfl, ?_⟩
        have bad : pairB cs q = false → Q (.ref b) Hx := fun z => k _ _ (s5.trans sx) (.inr ⟨(by
          rw [Bool.eq_false_iff]
          intro y
          have := List.all_eq_true.mp y q (List.mem_of_getElem? hqm)
          rw [z] at this
          cases this), b, rfl⟩)
        cases hany : (cs.any fun c => c.1.isEmpty) with
        | true =>
          refine iteT ?_
          dsimp only
          refine iteT ⟨_, rfl, bad ?_⟩
          unfold pairB
          rw [hany]
          rfl
        | false =>
          refine iteF ?_
          dsimp only
          refine ⟨_, rfl, Dn, _, rfl, by rw [← told_ints hany]; exact SqL.of ex, _, rfl, _, _, rfl, rfl, _, rfl, ite2 (fun h => ?_) (fun h => ?_)⟩
          · refine ⟨_, rfl, bad ?_⟩
            unfold pairB
            rw [hany, decide_eq_false (by have := of_decide_eq_true h; omega)]
            rfl
          · refine ⟨s5.trans sx, fun m hml hmj => ?_, _, _, _, _, _, _, rfl⟩
            by_cases z : m = j
            · subst z
              rw [hje]
              unfold pairB
              rw [hany, decide_eq_true (by have h : ¬ _ < _ := fun y => h (decide_eq_true y); exact Int.not_lt.mp h)]
              rfl
            · exact hm m hml (by omega)
    · rintro σ H5 ⟨s5, hm, v2, v3, v4, v5, v6, v7, rfl⟩
      rw [lls] at hm
      exact k _ _ s5 (.inl ⟨List.all_eq_true.mpr fun q hq => by
        obtain ⟨m, hml, rfl⟩ := List.getElem_of_mem hq
        exact hm m hml hml, rfl⟩)
theorem sc_keep : FnScope ["parts", "shared"] ["parts", "shared"] (defScope s_keep) := ⟨rfl, rfl, rfl, by decide +kernel, rfl, by decide +kernel, by decide +kernel⟩
theorem ok_keep (T : D K mg) (TB : Tabs base T) : FnOk P w K mg base CX0 8 T.f_keep T.d_keep ["parts", "shared"] (spKeep (tabs T)) := by
  refine T.U_keep.ok sc_keep (fun vs H Q E h => ?_) (fun cdv A outer s H vs Q E hr h => ?_)
  · obtain ⟨pv, sv, cs, ps, rfl, _⟩ := h
    rfl
  · obtain ⟨pv', sv, cs, ps, rfl, hP, l1, l6, hc, hS, hg, hT, k⟩ := h
    refine ⟨_, pss_cons (ps_expr (pe_call (ok_parts T TB) hr rfl T.g_check_parts T.U_check_parts.kp T.b_check_parts .nil pass0 (pa_cons (pv 0) pa_nil)))
      (pss_cons (ps_expr (pe_call (ok_chk T TB) (hr.mono (by decide)) rfl T.g_check_limits T.U_check_limits.kp T.b_check_limits .nil pass0 (pa_cons (pv 1) pa_nil)))
      (pss_one (ps_ret (pe_cmpR op_isN (pe_call (ok_broken T) (hr.mono (by decide)) rfl T.g_broken_limit T.U_broken_limit.kp T.b_broken_limit .nil pass0 (pa_cons (pv 0) (pa_cons (pv 1) pa_nil))) pe_non (nomark _))))), ?_⟩
    refine ⟨_, rfl, pv', cs, rfl, hP, l1, l6, hc, hT, fun H1 u1 => ?_⟩
    have st1 := u1.stay hT
    refine ⟨_, rfl, sv, _, rfl, hS.stay st1, lims_good hg.1 hg.2, u1.1, fun H2 u2 => ?_⟩
    have u12 := u1.trans u2
    have st2 := u12.stay hT
    refine ⟨_, rfl, _, rfl, pv', sv, cs, ps, rfl, hP.stay st2, l6, hc, hS.stay st2, hg, fun v H3 s3 hv => ⟨rfl, ?_⟩⟩
    have q := k H3 (u12.trans (.same u12.1 s3))
    rcases hv with ⟨e, rfl⟩ | ⟨e, a, rfl⟩
    · rw [e] at q
      exact q
    · rw [e] at q
      exact q
theorem sc_break : FnScope ["parts", "shared", "broken", "most", "wide", "meeting", "_", "late", "part"] ["parts", "shared"] (defScope s_breaking) := ⟨rfl, rfl, rfl, by decide +kernel, rfl, by decide +kernel, by decide +kernel⟩
theorem ok_break (T : D K mg) (TB : Tabs base T) : FnOk P w K mg base CX0 8 T.f_breaking T.d_breaking ["parts", "shared"] (spBreak (tabs T)) := by
  refine T.U_breaking.ok sc_break (fun vs H Q E h => ?_) (fun cdv A outer s H vs Q E hr h => ?_)
  · obtain ⟨pv, sv, cs, ps, rfl, _⟩ := h
    rfl
  · obtain ⟨pv', sv, cs, ps, rfl, hP, l1, l6, hc, hS, hg, hk, hT, k⟩ := h
    have nd := sc_break.nd
    refine ⟨_, pss_cons (ps_expr (pe_call (ok_parts T TB) hr rfl T.g_check_parts T.U_check_parts.kp T.b_check_parts .nil pass0 (pa_cons (pv 0) pa_nil)))
      (pss_cons (ps_expr (pe_call (ok_chk T TB) (hr.mono (by decide)) rfl T.g_check_limits T.U_check_limits.kp T.b_check_limits .nil pass0 (pa_cons (pv 1) pa_nil)))
      (pss_cons (ps_set (i := 2) nd rfl (.inl rfl) (pe_call (ok_broken T) (hr.mono (by decide)) rfl T.g_broken_limit T.U_broken_limit.kp T.b_broken_limit .nil pass0 (pa_cons (pv 0) (pa_cons (pv 1) pa_nil))))
      (pss_cons (ps_if (pt_cmpR op_isN (pv 2) pe_non (nomark _))
        (pss_one (ps_ret pe_non))
        (pss_nil))
      (pss_cons ps_never (pss_cons ps_never (pss_one ps_never)))))), ?_⟩
    refine ⟨_, rfl, pv', cs, rfl, hP, l1, l6, hc, hT, fun H1 u1 => ?_⟩
    have st1 := u1.stay hT
    refine ⟨_, rfl, sv, _, rfl, hS.stay st1, lims_good hg.1 hg.2, u1.1, fun H2 u2 => ?_⟩
    have u12 := u1.trans u2
    have st2 := u12.stay hT
    refine ⟨_, rfl, _, rfl, pv', sv, cs, ps, rfl, hP.stay st2, l6, hc, hS.stay st2, hg, fun v H3 s3 hv => gn ?_⟩
    have q := k H3 (u12.trans (.same u12.1 s3))
    rcases hv with ⟨e, rfl⟩ | ⟨e, a, rfl⟩
    · dsimp only
      exact ⟨_, rfl, rfl, _, rfl, iteT q⟩
    · rw [hk] at e
      cases e
theorem sc_mc : FnScope ["limits", "late", "shared", "most", "wide"] ["limits", "late", "shared"] (defScope s_most_crawlers) := ⟨rfl, rfl, rfl, by decide +kernel, rfl, by decide +kernel, by decide +kernel⟩
theorem ok_mc (T : D K mg) (TB : Tabs base T) : FnOk P w K mg base CX0 8 T.f_most_crawlers T.d_most_crawlers ["limits", "late", "shared"] (spMC (tabs T)) := by
  refine T.U_most_crawlers.ok sc_mc (fun vs H Q E h => ?_) (fun cdv A outer s H vs Q E hr h => ?_)
  · obtain ⟨lv, sv, D, ls, ps, rfl, _⟩ := h
    rfl
  · obtain ⟨lv, sv, D, ms, ps, rfl, hL, gL, d0, d1, hS, gS, hT, k1, k2, k3⟩ := h
    have nd := sc_mc.nd
    have mz : 5000 ≤ sizeLine := by decide
    refine ⟨_, pss_cons (ps_expr (pe_call (ok_chk T TB) (hr.mono (by decide)) rfl T.g_check_limits T.U_check_limits.kp T.b_check_limits .nil pass0 (pa_cons (pv 0) pa_nil)))
      (pss_cons (ps_expr (pe_call (ok_ckb T) (hr.mono (by decide)) rfl T.g_check_between T.U_check_between.kp T.b_check_between .nil pass0 (pa_cons (pv 1) (pa_cons pe_int (pa_cons (pe_glob (v := .int 24) rfl T.g_LATEST ⟨_, rfl⟩) pa_nil)))))
      (pss_cons (ps_expr (pe_call (ok_chk T TB) (hr.mono (by decide)) rfl T.g_check_limits T.U_check_limits.kp T.b_check_limits .nil pass0 (pa_cons (pv 2) pa_nil)))
      (pss_cons (ps_if (pt_not (pt_truth (pv 2) (fun _ => rfl)))
        (pss_one (ps_ret pe_non))
        (pss_nil))
      (pss_cons (ps_if (pt_not (pt_truth (pv 0) (fun _ => rfl)))
        (pss_one (ps_ret pe_int))
        (pss_nil))
      (pss_one (ps_ret (pe_callB (cr_min rfl) (by rfl) T.min (by decide +kernel) (pa_cons (pe_lc (own := [("most", 3), ("wide", 4)]) (g := gTup _ 2 (gCons (gName 3) (gCons (gName 4) gNil))) (tt := tYes) rfl nd (pi_tup (pv 2)) (blkOk_by (N := ["limits", "late", "shared", "most", "wide"]) (sc := defScope s_most_crawlers) (by decide +kernel)) (fun _ _ _ _ _ => pg_tup rfl (pgs_cons (pg_name (i := 3) nd rfl (.inl rfl)) (pgs_cons (pg_name (i := 4) nd rfl (.inl rfl)) pgs_nil))) (fun _ _ _ _ _ => pts_nil) (fun _ _ _ _ _ => pe_op op_fdivN (pv 3) (pe_call (ok_mostw T) (hr.mono (by decide)) rfl T.g_most_within T.U_most_within.kp T.b_most_within .nil pass0 (pa_cons (pv 0) (pa_cons (pe_op op_add (pv 4) (pv 1)) pa_nil))))) pa_nil)))))))), ?_⟩
    refine ⟨_, rfl, lv, _, rfl, hL, lims_good gL.1 gL.2, hT, fun H1 u1 => ?_⟩
    have st1 := u1.stay hT
    refine ⟨_, rfl, D, 0, 24, rfl, d0, d1, ?_⟩
    refine ⟨_, rfl, sv, _, rfl, hS.stay st1, lims_good gS.1 gS.2, u1.1, fun H2 u2' => ?_⟩
    have u2 := u1.trans u2'
    have st2 := u2.stay hT
    replace hL := hL.stay st2
    replace hS := hS.stay st2
    obtain ⟨la, ls, rfl, el, ol⟩ := od_tup hL
    obtain ⟨sa, ss, rfl, es, os⟩ := od_tup hS
    have lls : ls.length = ms.length := by rw [ol.len, List.length_map, List.length_map]
    have lss : ss.length = ps.length := by rw [os.len, List.length_map, List.length_map]
    refine ⟨_, rfl, !ss.isEmpty, .inr (.inl ⟨_, SqT.of es, rfl⟩), ?_⟩
    by_cases z1 : ps = []
    · have e : ss = [] := List.eq_nil_of_length_eq_zero (by rw [lss, z1]; rfl)
      rw [e]
      exact iteT (k1 z1 H2 u2)
    · have e : ss.isEmpty = false := by
        cases hss : ss with
        | nil => exact absurd (List.eq_nil_of_length_eq_zero (by rw [← lss, hss]; rfl)) z1
        | cons a l => rfl
      rw [e]
      refine iteF (next_of ?_)
      dsimp only
      refine ⟨_, rfl, !ls.isEmpty, .inr (.inl ⟨_, SqT.of el, rfl⟩), ?_⟩
      by_cases z2 : ms = []
      · have e : ls = [] := List.eq_nil_of_length_eq_zero (by rw [lls, z2]; rfl)
        rw [e]
        exact iteT (k2 z1 z2 H2 u2)
      · have e : ls.isEmpty = false := by
          cases hls : ls with
          | nil => exact absurd (List.eq_nil_of_length_eq_zero (by rw [← lls, hls]; rfl)) z2
          | cons a l => rfl
        rw [e]
        refine iteF (next_of ?_)
        dsimp only
        refine ⟨_, rfl, sa, rfl, ⟨_, SqT.of es⟩, fun Dn hDn => lc_tup (K := K) (a := sa) (xs := ss) (fun i Hx => Same H2 Hx ∧ Hx Dn = some (.lst (((ps.take i).map fun p => p.1 / ((mw ms (p.2 + D) : Nat) : Int)).map V.int))) ⟨same_upd hDn, upd_same⟩ (fun i Hx _ z => SqT.of (z.1 _ _ es)) ?_ ?_⟩
        · rintro i x Hx hx ⟨sx, ex⟩
          obtain ⟨q, b, hqm, rfl, eb⟩ := pair_at os hx
          have hq := gS.2 q (List.mem_of_getElem? hqm)
          refine ⟨b, _, rfl, SqT.of (sx _ _ eb), rfl, _, _, rfl, _, _, rfl, rfl, rfl, ?_⟩
          unfold tYes
          dsimp only
          rw [if_pos rfl]
          refine ⟨_, rfl, _, rfl, _, rfl, _, rfl, _, _, rfl, rfl, _, q.2 + D, ms, rfl, hL.same sx, gL.1, gL.c, by omega, fun v H6 hv s6 => ?_⟩
          rcases hv with ⟨e, _⟩ | ⟨_, n, rfl, hm⟩
          · exact absurd e z2
          · have hn := mw_pos z2 (fun p hp => (gL.2 p hp).1) (by omega) hm
            have hn2 : n ≤ 606 := by
              obtain ⟨ts, a1, a2, a3, _⟩ := hm
              have := row_short z2 gL.c a1 a3 (by omega)
              omega
            refine ⟨q.1, (n : Nat), rfl, rfl, ⟨by omega, by omega⟩, ?_⟩
            dsimp only
            rw [Int.fdiv_eq_ediv_of_nonneg _ (by omega)]
            refine ⟨_, s6 _ _ ex, by rw [List.length_map, List.length_map, List.length_take]; have := gS.1; omega, same_into hDn (sx.trans s6), ?_⟩
            rw [upd_same, List.take_add_one, hqm, List.map_append, List.map_append, ← mw_of hm]
            rfl
        · rintro Hx ⟨sx, ex⟩
          rw [lss, List.take_length] at ex
          refine ⟨Dn, _, rfl, SqL.of ex, by rw [List.length_map]; exact List.length_pos_iff.mpr z1, fun m hm hle => ?_⟩
          exact k3 z1 z2 m Hx hm hle (u2.trans (.same u2.1 sx))
end
end KP

set_option Elab.async false
set_option maxRecDepth 100000
set_option maxHeartbeats 4000000
set_option linter.all false
/-! Ours: an own exception class with its own __init__, made as a value by position or by keyword; its fields read; isinstance of it. -/
namespace PySem
namespace GrX
open PySem.W PySem.Calls PyProof.Rows PySem.HandSPX
section
variable {M : Model} {prog : Program} {w : World} {A : Around} {E : Value → Shared → Prop} {R : Result → Shared → Prop} {h : Heap} {g : Array GenState} {d : Drawn} {t : Nat} {os : OsState}
variable {nm q : Str} {C N : Addr} {bs bm bmB : List Value} {hdct : Bool} {sn : List Str} {sub : List Value} {ab : Bool} {col : Option Bool} {dd : Option Addr} {k0 k1 k2 k3 k5 : Option Value} {B newId initId : String}

theorem check_newK (F : ExcBaseFacts B newId initId bmB) (hT : ∀ X : String, bm.contains (.type X) = bmB.contains (.type X)) {rest : List Value} {kw : List (Str × Value)} {Q : Unit → Shared → Prop}
    (hC : h.get? C = some (excClassObj nm q C N bs bm hdct sn sub ab col dd k0 k1 k2 k3 k5 newId)) (hq : Q () ⟨h, g, d, t, os⟩) :
    wpAny M A (checkBuiltinCall newId ⟨.ref C :: rest, kw⟩) Q E ⟨h, g, d, t, os⟩ := by
  have hin : (Value.ref C :: bm).contains (.type B) = true := by rw [List.contains_cons, hT, F.hasB, Bool.or_true]
  have hst := F.noStar
  simp only [checkBuiltinCall, F.newKind, F.newSplit, F.newRow]
  repeat (first
    | refine wpAny_loadPart_at hC ?_
    | (refine wpAny_isSubtype_exc hC ?_; rw [hin])
    | refine wpAny_staticBase_exc hC ?_
    | refine wpAny_madeBy_exc hC ?_
    | simp only [bne_self_eq_false, Bool.false_eq_true, if_false]
    | wp_step)
  exact hq

theorem newK (F : ExcBaseFacts B newId initId bmB) (hT : ∀ X : String, bm.contains (.type X) = bmB.contains (.type X)) {rest : List Value} {kw : List (Str × Value)}
    (hC : h.get? C = some (excClassObj nm q C N bs bm hdct sn sub ab col dd k0 k1 k2 k3 k5 newId)) (hz : rest.length ≤ sizeLine)
    (hq : R (.ok (.ret (.ref (h.objs.size + 1)))) ⟨(h.push (W.kdv_tup rest)).push (excO C h.objs.size), g, d, t, os⟩) :
    codeAny (model prog w) A (.builtin newId ⟨.ref C :: rest, kw⟩) R ⟨h, g, d, t, os⟩ := by
  have he := F.ends
  have c1 : (Value.ref C :: bm).contains (.type B) = true := by rw [List.contains_cons, hT, F.hasB, Bool.or_true]
  have c2 : (Value.ref C :: bm).contains (.type "AttributeError") = false := by rw [List.contains_cons, hT, F.noAttr]; rfl
  have c3 : (Value.ref C :: bm).contains (.type "NameError") = false := by rw [List.contains_cons, hT, F.noName]; rfl
  refine codeAny_builtinAt F.entry ?_
  unfold Builtin.«BaseException.__new__»
  refine wpAt_bind ?_
  show wpAt _ _ _ (stack >>= _) _ _ _
  refine wpAt_bind (wpAt_stack fun p below => wpAt_of_wpAny ?_)
  wp_walk
  refine wpAt_of_wpAny ?_
  rw [F.owner]
  repeat (first
    | with_reducible refine wpAny_madeHere_exc F.canon hC ?_
    | with_reducible refine wpAny_loadPart_at hC ?_
    | (with_reducible refine wpAny_isSubtype_exc hC ?_; first | rw [c1] | rw [c2] | rw [c3])
    | wp_step)
  show R _ _
  rw [Heap.size_push]
  exact hq

theorem tcallK (F : ExcBaseFacts B newId initId bmB) (hT : ∀ X : String, bm.contains (.type X) = bmB.contains (.type X)) {rest : List Value} {kw : List (Str × Value)} {fI : Addr} {Q : Fin → Shared → Prop}
    (hC : h.get? C = some (excClassObj nm q C N bs bm hdct sn sub ab col dd k0 k1 k2 k3 k5 newId))
    (hi : W.Looks (model prog w) h (typeLookup (.ref C) "__init__") (some (.ref fI))) (hb : ∀ self, W.Looks (model prog w) h (bindSpecial (.ref fI) self) (.ref fI, [self])) (hz : rest.length ≤ sizeLine)
    (hq : codeAny (model prog w) A (.call (.ref fI) ⟨.ref (h.objs.size + 1) :: rest, kw⟩)
      (fun r s' => match r with | .ok (.ret v) => v = .none ∧ Q (.done (.ret (.ref (h.objs.size + 1)))) s' | .ok _ => False | .error e => E e s')
      ⟨(h.push (W.kdv_tup rest)).push (excO C h.objs.size), g, d, t, os⟩) :
    wpAny (model prog w) A (Builtin.«type.__call__» ⟨.ref C :: rest, kw⟩) Q E ⟨h, g, d, t, os⟩ := by
  repeat (first | with_reducible refine wpAny_loadPart_at hC ?_ | with_reducible refine wpAny_madeBy_exc hC ?_ | wp_step)
  refine codeAny_call_builtin_code (Code.quiet_builtin _ F.quiet) (check_newK F hT hC ?_)
  refine newK F hT hC hz ?_
  show wpAny _ _ _ _ _ _
  have kp : ∀ b o, h.get? b = some o → ((h.push (W.kdv_tup rest)).push (excO C h.objs.size)).get? b = some o := fun b o e => Heap.get?_push_of_some _ (Heap.get?_push_of_some _ e)
  have hC1 := kp _ _ hC
  have hg1 : ((h.push (W.kdv_tup rest)).push (excO C h.objs.size)).get? (h.objs.size + 1) = some (excO C h.objs.size) := by heap_get
  have hcC : (Value.ref C :: bm).contains (.ref C) = true := by simp
  have hi1 := hi.keeps kp
  have hb1 := (hb (.ref (h.objs.size + 1))).keeps kp
  unfold isInstance
  repeat (first | with_reducible refine wpAny_loadPart_at hg1 ?_ | (with_reducible refine wpAny_isSubtype_exc hC1 ?_; rw [hcC]) | wp_step)
  show wpAny _ _ (typeLookup (.ref C) _) _ _ _
  refine hi1.at ?_
  refine wpAny_holding (wpAny_bind (hb1.at ?_))
  refine wpAny_bind (wpAny_call (codeAny_mono hq fun r s' z => ?_))
  rcases r with e | (v | _ | _ | _) <;> first | exact z | exact z.elim | skip
  obtain ⟨rfl, z⟩ := z
  first
    | exact wpAny_pure (wpAny_pure z)
    | (wp_walk; exact z)

theorem callK (F : ExcBaseFacts B newId initId bmB) (hT : ∀ X : String, bm.contains (.type X) = bmB.contains (.type X)) {rest : List Value} {kw : List (Str × Value)} {fI : Addr}
    (hC : h.get? C = some (excClassObj nm q C N bs bm hdct sn sub ab col dd k0 k1 k2 k3 k5 newId))
    (hi : W.Looks (model prog w) h (typeLookup (.ref C) "__init__") (some (.ref fI))) (hb : ∀ self, W.Looks (model prog w) h (bindSpecial (.ref fI) self) (.ref fI, [self])) (hz : rest.length ≤ sizeLine)
    (hq : codeAny (model prog w) (A.under (.builtin "type.__call__" ⟨.ref C :: rest, kw⟩)) (.call (.ref fI) ⟨.ref (h.objs.size + 1) :: rest, kw⟩) (W.InitBack (h.objs.size + 1) R)
      ⟨(h.push (W.kdv_tup rest)).push (excO C h.objs.size), g, d, t, os⟩) :
    codeAny (model prog w) A (.call (.ref C) ⟨rest, kw⟩) R ⟨h, g, d, t, os⟩ := by
  have f1 := tc_lookup
  have f2 := tc_bind (.ref C)
  have hTy : (⟨h, g, d, t, os⟩ : Shared).TypeIs (.ref C) "type" := ⟨_, hC, rfl⟩
  refine codeAny_of_tree ?_
  show wpAny _ _ (callAny (.ref C) _) _ _ _
  repeat (any_goals (first | assumption | with_reducible refine wpAny_loadPart_at hC ?_ | wp_step))
  refine ⟨rfl, ?_⟩
  refine codeAny_call_builtin_at (Code.quiet_builtin _ (by decide +kernel)) entry_typeCall (wpAny_check_type_call_sub hC (tcallK F hT hC hi hb hz ?_))
  refine codeAny_mono hq fun r s' z => ?_
  rcases r with e | (v | _ | _ | _) <;> exact z
end
end GrX
end PySem

set_option Elab.async false
set_option maxRecDepth 100000
set_option maxHeartbeats 4000000
set_option linter.all false
namespace Gr
open PySem PySem.Spec PyProof.Rows L2

/-! ### own exceptions as values -/
section
variable {X : Cx} {CX : CXT} {k : Nat} {C fI : Addr} {fd : FuncData} {ps : List Str} {sp : Sp}
/-- C(..) with C's own __init__: a new exception, kept -/
theorem run_exv {pins : List (Addr × Obj)} {σ : L2.St} {H : Hp} {s : Shared} {Q : VK} {rest ws : List Value} {kw : List (Str × Value)} {vs : List V}
    (T : OexC X.K C) (iC : PySem.W.findIn X.K (.ref C) "__init__" = some (some (.ref fI))) (tI : PySem.W.typeIn X.K (.ref fI) = some (.type "function"))
    (F1 : FnOk X.prog X.w X.K X.mg X.base CX k fI fd ps sp) (hr : Room (k + 1) X.A) (hx : Passes CX X (fun _ _ _ => False))
    (hb : ∀ (s : Shared) (self : Value), X.K.In s.heap → BindsTo s fd ⟨self :: rest, kw⟩ (ps.zip (self :: ws))) (r : Vals vs ws) (hz : rest.length ≤ 1000)
    (I : Inv X pins σ H s) (h : ∀ a, H a = none → sp (.ref a :: vs) (upd H a (exo a C none)) (fun v H2 => v = .non ∧ Q (.ref a) H2) (fun _ _ _ => False)) :
    wpAny (model X.prog X.w) X.A (call (.ref C) rest kw) (EP X pins σ Q) X.xe s := by
  obtain ⟨nm, q, N, bs, bm, sn, sub, ab, col, dd, k0, k1, k2, k3, k5, hC, hbm⟩ := T.cls
  obtain ⟨hp, g, dr, tk, os⟩ := s
  have hsz : hp.objs.size ≤ hp.objs.size + 1 := Nat.le_succ _
  have hn : H (hp.objs.size + 1) = none := I.hok.fresh hsz
  have hq := h (hp.objs.size + 1) hn
  have kk : ∀ b o, hp.get? b = some o → ((hp.push (PySem.W.kdv_tup rest)).push (PySem.HandSPX.excO C hp.objs.size)).get? b = some o :=
    fun b o e => Heap.get?_push_of_some _ (Heap.get?_push_of_some _ e)
  have hget : ((hp.push (PySem.W.kdv_tup rest)).push (PySem.HandSPX.excO C hp.objs.size)).get? (hp.objs.size + 1) = some (PySem.HandSPX.excO C hp.objs.size) := by heap_get
  have I2 : Inv X pins σ (upd H (hp.objs.size + 1) (exo (hp.objs.size + 1) C none)) ⟨(hp.push (PySem.W.kdv_tup rest)).push (PySem.HandSPX.excO C hp.objs.size), g, dr, tk, os⟩ :=
    I.laid (t' := tk) (a := hp.objs.size + 1) (o := exo (hp.objs.size + 1) C none) kk hsz (exo_ok hget)
  have r2 : Vals (V.ref (hp.objs.size + 1) :: vs) (Value.ref (hp.objs.size + 1) :: ws) := .cons rfl r
  have hus : rest.length ≤ sizeLine := by
    rw [sizeLine_eq]
    omega
  refine wpAny_call (PySem.GrX.callK F.excBase_ValueError (fun Y => PySem.HandSPX.refsVE_contains Y bm hbm) (I.kIn _ _ hC) (PySem.W.looks_findIn I.kIn iC) (fun self => PySem.W.bind_fn I.kIn self tI) hus
    (codeAny_mono (F1.run _ X.stack _ _ ⟨Value.ref (hp.objs.size + 1) :: rest, kw⟩ (Value.ref (hp.objs.size + 1) :: ws) _ _ (fun _ _ _ => False) (hr.make C rest kw) (I2.env0.make C rest kw) (hb _ _ I2.kIn) r2 hq) fun rr s' hq' => ?_))
  match rr, hq' with
  | .error er, hq' => exact hx pins σ _ _ er s' I2 hq'
  | .ok (.ret u), hq' =>
    obtain ⟨v, H', I3, rv, ev, q3⟩ := I2.after hq'
    subst ev
    exact ⟨rv, ⟨V.ref (hp.objs.size + 1), H', I3, rfl, q3⟩⟩

/-- what C(e) asks -/
def tExv (C : Addr) (sp : Sp) (te : TE) : TE := fun σ H Q => te σ H fun y H1 => ∀ a, H1 a = none → sp [.ref a, y] (upd H1 a (exo a C none)) (fun v H2 => v = .non ∧ Q (.ref a) H2) (fun _ _ _ => False)
/-- how __init__(self, f) binds, by position and by name -/
structure Bnd1 (K : PySem.W.Frag) (fd : FuncData) (ps : List Str) (f : Str) : Prop where
  pos : ∀ (s : Shared) (self u : Value), K.In s.heap → BindsTo s fd ⟨[self, u], []⟩ (ps.zip [self, u])
  kw : ∀ (s : Shared) (self u : Value), K.In s.heap → BindsTo s fd ⟨[self], [(f, u)]⟩ (ps.zip [self, u])
variable {x f : Str} {p pos kpos : Pos} {e : Expr} {te : TE}
theorem pe_exv (T : OexC X.K C) (iC : PySem.W.findIn X.K (.ref C) "__init__" = some (some (.ref fI))) (tI : PySem.W.typeIn X.K (.ref fI) = some (.type "function"))
    (F1 : FnOk X.prog X.w X.K X.mg X.base CX k fI fd ps sp) (hr : Room (k + 1) X.A) (hx : Passes CX X (fun _ _ _ => False)) (hb : Bnd1 X.K fd ps f)
    (hg : Gl X x) (hm : X.mg x = some (.ref C)) (he : PE X e te) (hdb : (x == ("__debug__" : Str)) = false := by decide)
    (hs : starEach [e] X.env = (false, eval e X.env) :: starEach [] X.env := by rfl) (hpl : (backTo pos (starEach [] X.env)).any (·.1) = false := by rfl) :
    PE X (.Call (.Name x p) [e] [] pos) (tExv C sp te) := by
  have ha : PA X [e] (tCons te tNil) := pa_cons he pa_nil hs
  refine ⟨fun pins s σ H Q I h => ?_⟩
  refine wpAny_Call_Name_kw (ld_glob I hg hm ?_ hdb)
  refine PySem.W.callWith_K (h₀ := X.base) I.ok.mod.kin T.kC (thn (ha.run pos pins s σ H (fun vs H1 => match vs with
    | [y] => ∀ a, H1 a = none → sp [.ref a, y] (upd H1 a (exo a C none)) (fun v H2 => v = .non ∧ Q (.ref a) H2) (fun _ _ _ => False)
    | _ => False) I h) fun us s1 hh => ?_) hs hpl
  obtain ⟨vs, H1, I1, r, q⟩ := hh
  match vs, r, q with
  | [y], r, q =>
    obtain ⟨u, rfl, ru⟩ := vals1 r
    exact ⟨I1.kIn, run_exv (rest := [u]) (ws := [u]) (kw := []) (vs := [y]) T iC tI F1 hr hx (fun s self k => hb.pos s self u k) r (by simp) I1 q⟩
/-- C(f = e) -/
theorem pe_exk (T : OexC X.K C) (iC : PySem.W.findIn X.K (.ref C) "__init__" = some (some (.ref fI))) (tI : PySem.W.typeIn X.K (.ref fI) = some (.type "function"))
    (F1 : FnOk X.prog X.w X.K X.mg X.base CX k fI fd ps sp) (hr : Room (k + 1) X.A) (hx : Passes CX X (fun _ _ _ => False)) (hb : Bnd1 X.K fd ps f)
    (hg : Gl X x) (hm : X.mg x = some (.ref C)) (he : PE X e te) (hdb : (x == ("__debug__" : Str)) = false := by decide) :
    PE X (.Call (.Name x p) [] [⟨some f, e, kpos⟩] pos) (tExv C sp te) := by
  have ha : PK X [⟨some f, e, kpos⟩] (tCons te tNil) := pk_cons he pk_nil
  refine ⟨fun pins s σ H Q I h => ?_⟩
  refine wpAny_Call_Name_kw (ld_glob I hg hm ?_ hdb)
  refine PySem.W.callWith_KW0 (h₀ := X.base) I.ok.mod.kin T.kC rfl (thn (ha.run pos pins s σ H (fun vs H1 => match vs with
    | [y] => ∀ a, H1 a = none → sp [.ref a, y] (upd H1 a (exo a C none)) (fun v H2 => v = .non ∧ Q (.ref a) H2) (fun _ _ _ => False)
    | _ => False) I h) fun us s1 hh => ?_) rfl
  obtain ⟨vs, H1, I1, r, q⟩ := hh
  match vs, r, q with
  | [y], r, q =>
    obtain ⟨u, rfl, ru⟩ := vals1 r
    exact ⟨I1.kIn, run_exv (rest := []) (ws := [u]) (kw := [(f, u)]) (vs := [y]) T iC tI F1 hr hx (fun s self k => hb.kw s self u k) r (by simp) I1 q⟩
end
end Gr

set_option Elab.async false
set_option maxRecDepth 100000
set_option maxHeartbeats 4000000
set_option linter.all false
namespace PySem
namespace GrX
open PySem.W PySem.Calls PyProof.Rows
section
variable {prog : Program} {w : World} {A : Around} {E : Value → Shared → Prop} {s : Shared} {K : Frag} {x D : Addr} {ox : Obj} {od : Option Obj}
theorem findObj_any {C : Addr} {name : Str} {a g : Value} (hc : (clsIn K C).isSome = true) (ha : findIn K (.ref C) name = some (some a)) (hg : specialIn K a "__get__" = some (some g)) (ht : takesIn K a = some true) :
    findObj K C od name = some (.bind g a) := by
  obtain ⟨cd, hc⟩ := Option.isSome_iff_exists.mp hc
  unfold findObj
  rw [hc, Option.bind_some, ha, Option.bind_some]
  simp [hg, ht]
/-- x.__class__, x an error of the class at D, its dict whatever it is -/
theorem class_any {Q : Option Value → Shared → Prop} (hga : findIn K (.ref D) "__getattribute__" = some (some (.builtin "BaseException.__getattribute__"))) (hgt : findIn K (.ref D) "__getattr__" = some none) (hsub : subIn K (.ref D) (.type "BaseException") = some true)
    (hdct : hasDictIn K D = true) (ha : findIn K (.ref D) "__class__" = some (some (.builtin "object.__class__")))
    (hn : specialIn K (.builtin "object.__class__") "__get__" = some (some (.builtin "getset_descriptor.__get__"))) (htk : takesIn K (.builtin "object.__class__") = some true) (hm : mroIn K D (.type "object") = some true)
    (X : K.In s.heap) (I : InstAt s.heap x ox D od) (h : Q (some (.ref D)) { s with toks := s.toks + 1 }) : wpAny (model prog w) A (getAttr? (.ref x) "__class__") Q E s := by
  have hf : findObj K D od "__class__" = some (.bind (.builtin "getset_descriptor.__get__") (.builtin "object.__class__")) :=
    findObj_any (by obtain ⟨cd, hc, _⟩ := any_some hdct; rw [hc]; rfl) ha hn htk
  obtain ⟨hp, g, d, t, os⟩ := s
  have T0 := I.type (M := model prog w)
  have T1 := looks_findIn (M := model prog w) X hga
  have T2 := looks_findIn (M := model prog w) X hgt
  have T3 := looks_find (M := model prog w) X I hf
  have sb : Looks (model prog w) hp (isInstance (.ref x) (.type "BaseException")) true := T0.andThen (looks_subIn X hsub)
  have e0 : (false && onTheHeap (Value.builtin "BaseException.__getattribute__")) = false := rfl
  have e2 : (Value.builtin "BaseException.__getattribute__" == Value.builtin "object.__getattribute__") = false := by decide +kernel
  have e1 : (onTheHeap (Value.ref D) && Value.builtin "BaseException.__getattribute__" == Value.builtin "object.__getattribute__") = false := by rw [e2]; rfl
  unfold getAttr? getAttrBy? getAttrBy
  refine wpAny_bind (wpAny_mkText (wpAny_bind (wpAny_attempt (wpAny_holding (wpAny_bind (T0.at (wpAny_bind (T1.at ?_))))))))
  show wpAny _ _ (if (onTheHeap (Value.ref D) && Value.builtin "BaseException.__getattribute__" == Value.builtin "object.__getattribute__") = true then _ else _) _ _ _
  rw [e1, if_neg Bool.false_ne_true]
  unfold getAttrByItsOwn hookBefore
  refine wpAny_bind ?_
  rw [if_pos (show onTheHeap (Value.ref D) = true from rfl)]
  refine T2.at ?_
  refine wpAny_bind (wpAny_attempt (wpAny_holding ?_))
  unfold callGetattribute
  rw [e0, if_neg Bool.false_ne_true]
  unfold boundAndCalled
  rw [PySem.F.excAttr_ValueError.ga.bind (.ref x)]
  refine wpAny_bind (wpAny_pure ?_)
  show wpAny _ _ (call (.builtin "BaseException.__getattribute__") [.ref x, .str "__class__" t]) _ _ _
  refine wpAny_call (codeAny_call_builtin PySem.F.excAttr_ValueError.ga.plain PySem.F.entry_bexc_ga ?_)
  refine @check_slot (model prog w) _ _ ⟨hp, g, d, t + 1, os⟩ "BaseException.__getattribute__" "BaseException" "__getattribute__" (.ref x) [.str "__class__" t] [] _ (by decide +kernel) (by decide +kernel) sb (PySem.F.args_bexc_ga (.ref x) (.str "__class__" t)) ?_
  unfold Builtin.«object.__getattribute__»
  refine wpAny_bind (wpAny_of_eq (a := ((Value.ref x : Value), [Value.str "__class__" t])) (by first | rfl | (simp only [slotArgs]; rfl)) ?_)
  refine wpAny_bind (wpAny_pure (wpAny_bind (T0.at (wpAny_bind (T3.at ?_)))))
  show wpAny _ _ (holding [Value.builtin "object.__class__"] (call (.builtin "getset_descriptor.__get__") [.builtin "object.__class__", .ref x, .ref D]) >>= ret) _ _ _
  refine wpAny_bind (wpAny_holding (wpAny_call (class_get (s := ⟨hp, g, d, t + 1, os⟩) (ox := ox) (od := od) X I hm ?_)))
  refine wpAny_pure ?_
  show wpAny _ _ (handedOut (.ref D)) _ _ _
  rw [handedOut_of (v := .ref D) rfl]
  first
    | exact wpAny_pure (wpAny_pure h)
    | exact wpAny_pure h
    | exact wpAny_pure (wpAny_bind (wpAny_pure (wpAny_pure h)))
theorem kitx_any (C : L2.ExcC K D) : KitX K (.ref x) (.ref D) (fun h => ∃ ox od, InstAt h x ox D od) where
  ty := fun _ _ _ ⟨_, _, I⟩ => I.type
  it := fun _ _ X _ => by
    obtain ⟨cdD, hcD, _⟩ := any_some C.hd
    unfold clsIn at hcD
    split at hcD
    · rename_i c' d' cd' sl' ho
      intro A' Q' E' s' k q
      unfold isType loadHead
      exact wpAny_bind (wpAny_loadPart (k _ _ (X _ _ ho)) (wpAny_pure q))
    · cases hcD
  ne := fun h tp dd its n sl X htp => by
    obtain ⟨cdD, hcD, _⟩ := any_some C.hd
    refine Bool.eq_false_iff.mpr fun q => ?_
    have e : D = tp := Value.ref.inj (beq_iff_eq.mp q)
    subst e
    unfold clsIn at hcD
    split at hcD
    · rename_i c' d' cd' sl' ho
      have z := (X _ _ ho).symm.trans htp
      cases z
    · cases hcD
  ca := fun X ⟨_, _, I⟩ k => class_any C.hg C.hk C.hs C.hd C.ha C.hn C.ht C.hm X I k
end
end GrX
end PySem
namespace Gr
open PySem PySem.Spec PyProof.Rows L2

/-- an error of the class at C stands at a: by its own __init__, with its dict, or of a class without one -/
inductive Err (H : Hp) (a C : Addr) : Prop
  | own (dx : Addr) (fs : List (Str × V)) (h1 : H a = some (exo a C (some dx))) (h2 : H dx = some (exd dx fs))
  | bare (h1 : H a = some (ExO (.ref C) a))
theorem Err.same {H H' : Hp} {a C : Addr} (e : Same H H') (h : Err H a C) : Err H' a C := by
  cases h with
  | own dx fs h1 h2 => exact .own dx fs (e _ _ h1) (e _ _ h2)
  | bare h1 => exact .bare (e _ _ h1)

section
variable {X : Cx} {pins : List (Addr × Obj)} {σ : L2.St} {H : Hp} {s : Shared}
theorem Err.inst (I : Inv X pins σ H s) {a C : Addr} (h : Err H a C) : ∃ ox od, PySem.W.InstAt s.heap a ox C od := by
  cases h with
  | own dx fs h1 h2 =>
    obtain ⟨t1, ho⟩ := exo_at I.hok h1
    obtain ⟨mA, hns, rel⟩ := exd_at I.hok h2
    obtain ⟨od, _, _, hod, _, _⟩ := hns.count (within_of rel)
    exact ⟨_, some od, ho, rfl, rfl, hod⟩
  | bare h1 =>
    obtain ⟨⟨oe, vs, he, hz, hd, _⟩, _, _⟩ := I.hok a _ h1
    obtain ⟨c, d, dt, sl⟩ := oe
    obtain ⟨z1, z2⟩ := hz
    dsimp only at z1 z2 hd
    subst z1 z2 hd
    exact ⟨_, none, he, rfl, rfl, trivial⟩
/-- isinstance(e, c) -/
def rIsX (K : PySem.W.Frag) : List V → Hp → VK → Prop := fun xs H Q => ∃ (a C : Addr) (c : V) (u : Value) (b : Bool), xs = [.ref a, c] ∧ Err H a C ∧ ExcC K C ∧ ClsV c u ∧ PySem.W.kitOne K (.ref C) u = some b ∧ Q (.bl b) H
theorem call_isX : CallR X (.builtin "isinstance") (rIsX X.K) := by
  intro pins s σ H xs us Q I r h
  obtain ⟨a, C, c, u, b, rfl, he, hc, k, e, q⟩ := h
  obtain ⟨u1, u2, rfl, r1, r2⟩ := vals2 r
  cases (show u1 = Value.ref a from r1)
  have e2 := k.eq r2
  subst e2
  exact PySem.W.kia_one (PySem.GrX.kitx_any hc) I.kIn (he.inst I) e (fun z => nomatch z) fun tk => ⟨.bl b, H, I.tok tk, rfl, q⟩
/-- isinstance(e, (c1, c2, ..)) -/
def rIsXT (K : PySem.W.Frag) : List V → Hp → VK → Prop := fun xs H Q => ∃ (a C tp : Addr) (cs : List V) (us : List Value) (b : Bool), xs = [.ref a, .ref tp] ∧ Err H a C ∧ ExcC K C ∧ H tp = some (.tup cs) ∧ Paired ClsV cs us ∧ PySem.W.kitAny K (.ref C) us = some b ∧ Q (.bl b) H
theorem call_isXT : CallR X (.builtin "isinstance") (rIsXT X.K) := by
  intro pins s σ H xs us Q I r h
  obtain ⟨a, C, tp, cs, ws, b, rfl, he, hc, hT, k, e, q⟩ := h
  obtain ⟨u1, u2, rfl, r1, r2⟩ := vals2 r
  cases (show u1 = Value.ref a from r1)
  cases (show u2 = Value.ref tp from r2)
  obtain ⟨_, its, rv, o, h1, h2, n, h3⟩ := (show ObjOk X.prog X.w H s.heap tp (.tup cs) from I.hok tp _ hT)
  have e3 := ClsV.all k rv
  subst e3
  obtain ⟨oc, od, dt, sl⟩ := o
  simp only at h2 h3
  subst h2 h3
  exact PySem.W.kia_tup (PySem.GrX.kitx_any hc) I.kIn (he.inst I) h1 e (fun z => nomatch z) fun tk => ⟨.bl b, H, I.tok tk, rfl, q⟩

/-- e.f of an error that is kept -/
def tXfv (K : PySem.W.Frag) (f : Str) (te : TE) : TE := fun σ H Q => te σ H fun x H1 => ∃ (a C dx : Addr) (fs : List (Str × V)) (v : V), x = .ref a ∧ H1 a = some (exo a C (some dx)) ∧ H1 dx = some (exd dx fs) ∧
  XfC K C ∧ PySem.W.findIn K (.ref C) f = some none ∧ fs.lookup f = some v ∧ Q v H1
theorem pe_xfv {e : Expr} {te : TE} {pos : Pos} {n : Str} (he : PE X e te) (hb : attributeBase e n X.env (eval e X.env) = eval e X.env := by rfl) : PE X (.Attribute e n pos) (tXfv X.K n te) := by
  refine ⟨fun pins s σ H Q I h => attr_of hb (thn (he.run pins s σ H _ I h) fun u s1 hh => ?_)⟩
  obtain ⟨x, H1, I1, rx, a, C, dx, fs, v, ex, ea, ed, T, hno, l, q⟩ := hh
  subst ex
  obtain rfl : u = Value.ref a := rx
  obtain ⟨t1, ho⟩ := exo_at I1.hok ea
  obtain ⟨mA, hns, hr⟩ := exd_at I1.hok ed
  obtain ⟨od, hod, hl⟩ := lookIn_ns hns
  obtain ⟨w', hw, rw'⟩ := RelO.some_of (v := v) (o := mA n) (by rw [← l]; exact hr n)
  exact HandSPX.exc_get I1.kIn ⟨ho, rfl, rfl, hod⟩ T.ga T.gg T.exC (PySem.W.findObj_own T.hdC hno rfl (by rw [hl, hw])) (handed_of rw') ⟨v, H1, I1.tok _, rw', q⟩
/-- C(), an own class without __init__ -/
theorem pe_exc0 {C : Addr} {bmB : List Value} {B newId initId : String} {x : Str} {p pos : Pos} (F : ExcBaseFacts B newId initId bmB) (q : PySem.W.excIn X.K C bmB newId = true) (gC : X.mg x = some (.ref C)) (kC : PySem.W.keepIn X.K (.ref C) = true) (hg : Gl X x)
    (hdb : (x == ("__debug__" : Str)) = false := by decide) :
    PE X (.Call (.Name x p) [] [] pos) (fun σ H Q => ∀ a, H a = none → Q (.ref a) (upd H a (ExO (.ref C) a))) := by
  refine ⟨fun pins s σ H Q I h => wpAny_Call_Name_kw (ld_glob I hg gC (PySem.W.callWith_K0 I.kIn kC ?_) hdb)⟩
  show wpAny _ _ (call (.ref C) []) _ _ _
  obtain ⟨bm, N, nm, qn, bs, hdct, sn, sub, ab, col, dd, k0, k1, k2, k3, k5, mN, hC, hN, hni, T⟩ := exc_obj I.kIn q
  obtain ⟨hp, g, d, t, os⟩ := s
  refine wpAny_call_exc_subT F T hC hN hni (fun h' a hm => ?_) (by show 0 ≤ sizeLine; exact Nat.zero_le _)
  have hn : H a = none := I.hok.gone hm.new
  obtain ⟨t, ht, _, _⟩ := hm.there
  exact ⟨.ref a, upd H a (ExO (.ref C) a), I.laidN hm.keeps hm.new hn (exO_ok ht ⟨rfl, rfl⟩ rfl rfl rfl (show 4 < 6 by decide)), rfl, h a hn⟩
end
end Gr

set_option Elab.async false
set_option maxRecDepth 100000
set_option maxHeartbeats 4000000
set_option linter.all false
/-! Ours: the law's call, by a promise for calls where no repr is under way. -/
namespace Gr
open PySem PySem.Spec PyProof.Rows L2

/-- the law's own call behind the top -/
theorem law_callQ {P : Program} {w : World} {K : PySem.W.Frag} {mg mb : Str → Option Value} {k : Nat} {fa a : Addr} {fd : FuncData} {x : Str} {sp : Sp} {s₁ : Shared} {vs : List Value} {ns : List Int}
    (KX : K.In s₁.heap) (hns : s₁.heap.Ns mainGlobals mg) (hb : s₁.heap.Ns builtinsNs mb) (hbb : ∀ x : Str, x ≠ "__name__" → mb x = bootBuiltins x) (hlim : s₁.heap.NoLimit) (hg : s₁.gens = #[])
    (ha : s₁.heap.get? a = some { cls := .type "list", data := .seq vs.toArray }) (hi : IntsAre vs ns) (hl : ns.length ≤ sizeLine) (hr : Room k callerA)
    (F : ∀ base : Heap, K.In base → base.Ns mainGlobals mg → FnQ P w K mg base CX0 k fa fd [x] sp) (hbind : ∀ (s : Shared) (u : Value), BindsTo s fd ⟨[u], []⟩ [(x, u)])
    (hsp : ∀ H : Hp, Only H → SqL K H a (ns.map V.int) → sp [.ref a] H (fun v _ => v = .bl true) fun _ _ _ => False) :
    codeAny (model P w) callerA (.call (.ref fa) ⟨[.ref a], []⟩) (fun r s' => r = .ok (.ret (.bool true)) ∧ OldK s₁.heap s'.heap ∧ s'.os = s₁.os ∧ AllBare s'.gens) s₁ := by
  have rv := vals_ints hi
  have lenV := hi.length
  have core : ∀ H : Hp, Only H → SqL K H a (ns.map V.int) → HOk P w H s₁.heap → (∀ b, H b ≠ none → b = a) → (H a ≠ none → K.lookup a = none) →
      codeAny (model P w) callerA (.call (.ref fa) ⟨[.ref a], []⟩) (fun r s' => r = .ok (.ret (.bool true)) ∧ OldK s₁.heap s'.heap ∧ s'.os = s₁.os ∧ AllBare s'.gens) s₁ := by
    intro H hO hS hok hA hK
    have isA : ∀ {b : Addr} {u : HO}, H b = some u → b = a := fun {b u} q => hA b fun z => by
      rw [q] at z
      cases z
    have seen : ∀ {b : Addr} {o : Obj}, s₁.heap.get? b = some o → H b = none → (hidT s₁.heap H).get? b = some o := fun e n => hidT_get e n
    have noDict : ∀ {b : Addr} {o : Obj} {es : Array DictEntry} {ep : Nat}, s₁.heap.get? b = some o → o.data = .dict es ep → H b = none := fun {b o es ep} e d => by
      cases q : H b with
      | none => rfl
      | some u =>
        have e' := isA q
        subst e'
        rw [ha] at e
        cases e
        cases (show Data.seq vs.toArray _ = Data.dict es ep from d)
    have nsK : ∀ {b : Addr} {m : Str → Option Value}, s₁.heap.Ns b m → (hidT s₁.heap H).Ns b m := fun {b m} ⟨o, es, ep, e, d, r⟩ => ⟨o, es, ep, seen e (noDict e d), d, r⟩
    have hKb : K.In (hidT s₁.heap H) := fun b o e => seen (KX b o e) (by
      cases q : H b with
      | none => rfl
      | some u =>
        have e' := isA q
        subst e'
        rw [hK (by rw [q]; simp)] at e
        cases e)
    have hM : Mod K mg (hidT s₁.heap H) := ⟨hKb, nsK hns, ⟨mb, nsK hb, hbb⟩, let ⟨mc, h1, h2⟩ := hlim; ⟨mc, nsK h1, h2⟩⟩
    have noF : ∀ b, b ∉ frs ([] : List Env) := fun b z => nomatch z
    have e0 : Env0 P w K mg (hidT s₁.heap H) callerA [] s₁ H := ⟨rfl, hM, fun b o e => of_hidT e, Nat.le_of_eq (hidT_size _ _), trivial, fun b z => absurd z (noF b), hok, .of_eq hg⟩
    refine codeAny_mono ((F _ hKb (nsK hns)).run callerA [] s₁ H ⟨[.ref a], []⟩ [.ref a] [.ref a] _ _ rfl hr e0 (hbind s₁ (.ref a)) (.cons rfl .nil) (hsp H hO hS)) fun r s' h => ?_
    match r, h with
    | .error e, h => exact False.elim h
    | .ok (.ret u), h =>
      obtain ⟨v, H', os, bare, un, hok', r', q⟩ := h
      have q' : v = .bl true := q
      subst q'
      obtain rfl : u = Value.bool true := r'
      refine ⟨rfl, OldK.of_keep fun b o e => ?_, os, bare⟩
      cases q : H b with
      | none => exact un.keep b o e q (noF b) (fun z => nomatch z)
      | some u =>
        rcases hO b with z | ⟨ob, xs, z⟩
        · rw [q] at z
          cases z
        · obtain ⟨e1, _⟩ := hok b _ z
          obtain ⟨e2, _⟩ := hok' b _ (un.frzs b ob _ z)
          rw [e] at e1
          cases e1
          exact e2
  cases hk : K.lookup a with
  | some o =>
    have e := KX a o hk
    rw [ha] at e
    cases e
    exact core (fun _ => none) (fun _ => .inl rfl) (.inr ⟨_, vs.toArray, _, hk, rfl, rfl, rfl, by rw [List.size_toArray, lenV]; exact hl, by simpa using rv⟩)
      (fun b u z => nomatch z) (fun b z => absurd rfl z) fun z => absurd rfl z
  | none =>
    have at1 : ∀ {b : Addr} {u : HO}, (if b = a then some (HO.frz { cls := .type "list", data := .seq vs.toArray } (.lst (ns.map V.int))) else none) = some u →
        b = a ∧ u = HO.frz { cls := .type "list", data := .seq vs.toArray } (.lst (ns.map V.int)) := fun {b u} z => by
      by_cases hb : b = a
      · rw [if_pos hb] at z
        exact ⟨hb, (Option.some.inj z).symm⟩
      · rw [if_neg hb] at z
        cases z
    refine core (fun b => if b = a then some (.frz { cls := .type "list", data := .seq vs.toArray } (.lst (ns.map V.int))) else none) (fun b => ?_)
      (.inl (.inr ⟨{ cls := .type "list", data := .seq vs.toArray }, if_pos rfl⟩)) (fun b u z => ?_) (fun b z => ?_) fun _ => hk
    · by_cases hb : b = a
      · exact .inr ⟨_, _, if_pos hb⟩
      · exact .inl (if_neg hb)
    · obtain ⟨rfl, rfl⟩ := at1 z
      exact ⟨ha, by rw [List.length_map]; exact hl, vs, _, rv, ha⟩
    · by_cases hb : b = a
      · exact hb
      · exact absurd (if_neg hb) z
/-- what the head leaves, from such a promise -/
theorem walk_ofQ {l : PySem.W.OpenLaw} {n k : Nat} {q : Program} {loose : List Str} {XP : (Str → Option Value) → Heap → Prop} {YP : World → Heap → Prop} {d : DefRec} {K : Params → PySem.W.Frag} {sp : PySem.W.Frag → Sp} {x : Str}
    (hn : l.most = some n) (hn2 : n ≤ sizeLine) (hdf : d.params.defaults = []) (hr : Room k callerA)
    (hY : ∀ (w : World) (h : Heap), YP w h → (K w.params).In h)
    (F : ∀ (w : World) (mg : Str → Option Value) (fa : Addr) (h : Heap), (K w.params).In h → h.Ns mainGlobals mg → mg d.name = some (.ref fa) →
      ∃ fd : FuncData, (∀ (s : Shared) (u : Value), BindsTo s fd ⟨[u], []⟩ [(x, u)]) ∧
        ∀ base : Heap, (K w.params).In base → base.Ns mainGlobals mg → FnQ l.prog w (K w.params) mg base CX0 k fa fd [x] (sp (K w.params)))
    (hsp : ∀ (K : PySem.W.Frag) (H : Hp) (a : Addr) (ns : List Int), ns.length ≤ n → Only H → SqL K H a (ns.map V.int) → sp K [.ref a] H (fun v _ => v = .bl true) fun _ _ _ => False) :
    PySem.W.WalkO q loose XP YP l.row.toRowW d [] (fun f vs => PySem.call f vs) := by
  refine Att.attach_call hn hdf fun w s₀ s₁ mg mb fa o pm cd doc a vs ns G Y ho hd hcd hmg hobj hints hlen hg => ?_
  have KX := hY w _ Y
  obtain ⟨fd, hb, hF⟩ := F w mg fa _ KX G.T.g hmg
  exact law_callQ KX G.T.g G.T.b G.T.builtins G.T.nolimit hg hobj hints (Nat.le_trans hlen hn2) hr hF hb fun H hO hS => hsp (K w.params) H a ns hlen hO hS
end Gr

set_option Elab.async false
set_option maxRecDepth 100000
set_option maxHeartbeats 4000000
set_option linter.all false
/-! Ours: own error classes whose __init__ keeps one value; lists of such errors; isinstance of an error against a list of classes. -/
namespace Gr
open PySem PySem.Spec PyProof.Rows L2

section
variable {X : Cx}
theorem peImp {e : Expr} {t t' : TE} (h : PE X e t) (k : ∀ σ H Q, t' σ H Q → t σ H Q) : PE X e t' := ⟨fun pins s σ H Q I q => h.run pins s σ H Q I (k σ H Q q)⟩
theorem paImp {es : List Expr} {t t' : TA} (h : PA X es t) (k : ∀ σ H Q, t' σ H Q → t σ H Q) : PA X es t' := ⟨fun pos pins s σ H Q I q => h.run pos pins s σ H Q I (k σ H Q q)⟩
end

/-! ### the text of such an __init__ -/
def iArgs (f : Str) (p1 p2 : Pos) : Arguments := { posonlyargs := [], args := [{ arg := "self", annotation := none, pos := p1 }, { arg := f, annotation := none, pos := p2 }], vararg := none, kwonlyargs := [], kw_defaults := [], kwarg := none, defaults := [] }
def iBody (f : Str) (q1 q2 q3 q4 : Pos) : List Stmt := [.Assign [.Attribute (.Name "self" q1) f q2] (.Name f q3) q4]
def iScope (f : Str) : Scope := { kind := .function, names := [(PySem.Str.ofString "self", .local), (f, .local)], isGenerator := false, isCoroutine := false, more := [] }
def Fld (f : Str) : Prop := f = "given" ∨ f = "index"

/-- the __init__ of the class at C -/
structure InitAt (K : PySem.W.Frag) (C fI : Addr) (fd : FuncData) (f : Str) : Prop where
  iC : PySem.W.findIn K (.ref C) "__init__" = some (some (.ref fI))
  tI : PySem.W.typeIn K (.ref fI) = some (.type "function")
  ex : ∃ (q : Str) (oc : Value) (od : Option Addr) (doc pm : Value) (an : Option Addr) (cdv ct : Value) (osl : Array (Option Value)) (p1 p2 q1 q2 q3 q4 : Pos),
    fd = PySem.W.fnOf "__init__" q (iArgs f p1 p2) (iBody f q1 q2 q3 q4) (iScope f) .none .none doc pm an cdv ct ∧ K.lookup fI = some ⟨oc, od, .func fd, osl⟩ ∧ PySem.W.codeIn K cdv q = true
/-- what the written part says of such a class -/
structure ErrC (K : PySem.W.Frag) (mg : Str → Option Value) (nm f : Str) (C fI : Addr) (fd : FuncData) : Prop where
  gC : mg nm = some (.ref C)
  oex : OexC K C
  xf : XfC K C
  exc : ExcC K C
  nof : PySem.W.findIn K (.ref C) f = some none
  ini : InitAt K C fI fd f
  fld : Fld f

def spInit (K : PySem.W.Frag) (f : Str) : Sp := fun vs H Q _ => ∃ (a C : Addr) (y : V), vs = [.ref a, y] ∧ OexC K C ∧ PySem.W.findIn K (.ref C) f = some none ∧ H a = some (exo a C none) ∧
  ∀ dx, H dx = none → dx ≠ a → Q .non (upd (upd H dx (exd dx [(f, y)])) a (exo a C (some dx)))
section
variable {P : Program} {w : World} {K : PySem.W.Frag} {mg : Str → Option Value} {base : Heap}
theorem scInit {f : Str} (hf : Fld f) : FnScope ["self", f] ["self", f] (iScope f) := by
  rcases hf with rfl | rfl <;> exact ⟨rfl, rfl, rfl, by decide +kernel, rfl, by decide +kernel, by decide +kernel⟩
theorem InitAt.ok {C fI : Addr} {fd : FuncData} {f : Str} (I : InitAt K C fI fd f) (hf : Fld f) : FnOk P w K mg base CX0 1 fI fd ["self", f] (spInit K f) := by
  obtain ⟨q, oc, od, doc, pm, an, cdv, ct, osl, p1, p2, q1, q2, q3, q4, rfl, lk, hcd⟩ := I.ex
  refine fn_of lk hcd (scInit hf) (fun vs H Q E h => ?_) (fun A outer s H vs Q E hr h => ?_)
  · obtain ⟨a, C, y, rfl, _⟩ := h
    rfl
  · obtain ⟨a, C, y, rfl, T, hno, ha, k⟩ := h
    rcases hf with rfl | rfl
    · refine ⟨_, PSs.nox (pss_one (ps_ost (pv 0) (pv 1))), ?_⟩
      exact ⟨_, rfl, _, rfl, a, C, rfl, T, hno, .inl ⟨ha, k⟩⟩
    · refine ⟨_, PSs.nox (pss_one (ps_ost (pv 0) (pv 1))), ?_⟩
      exact ⟨_, rfl, _, rfl, a, C, rfl, T, hno, .inl ⟨ha, k⟩⟩
theorem InitAt.bnd {C fI : Addr} {fd : FuncData} {f : Str} (I : InitAt K C fI fd f) (hf : Fld f) : Bnd1 K fd ["self", f] f := by
  obtain ⟨q, oc, od, doc, pm, an, cdv, ct, osl, p1, p2, q1, q2, q3, q4, rfl, lk, hcd⟩ := I.ex
  rcases hf with rfl | rfl <;> exact ⟨fun s self u _ => .of_eq rfl, fun s self u _ => .of_eq rfl⟩
end

/-! ### errors that are kept -/
/-- at a: an error of the class at C that keeps y under f -/
def ErrV (H : Hp) (a C : Addr) (f : Str) (y : V) : Prop := ∃ dx, H a = some (exo a C (some dx)) ∧ H dx = some (exd dx [(f, y)])
theorem ErrV.same {H H' : Hp} {a C : Addr} {f : Str} {y : V} (e : Same H H') (h : ErrV H a C f y) : ErrV H' a C f y := by
  obtain ⟨dx, h1, h2⟩ := h
  exact ⟨dx, e _ _ h1, e _ _ h2⟩
theorem ErrV.err {H : Hp} {a C : Addr} {f : Str} {y : V} (h : ErrV H a C f y) : Err H a C := by
  obtain ⟨dx, h1, h2⟩ := h
  exact .own dx _ h1 h2
theorem same_init {H : Hp} {a dx : Addr} {o1 o2 o3 : HO} (ha : H a = none) (hd : upd H a o1 dx = none) : Same H (upd (upd (upd H a o1) dx o2) a o3) := fun b u e => by
  have n1 : b ≠ a := ne_of_none e ha
  have n2 : b ≠ dx := fun z => by
    rw [← z, upd_ne n1, e] at hd
    cases hd
  rw [upd_ne n1, upd_ne n2, upd_ne n1]
  exact e

section
variable {X : Cx} {nm f : Str} {C fI : Addr} {fd : FuncData} {p pos kpos ip : Pos} {i : Nat} {v : Str}
/-- C(v), v in slot i -/
def tErr (C : Addr) (f : Str) (i : Nat) : TE := fun σ H Q => ∃ y, σ[i]? = some (some y) ∧ ∀ a H2, Same H H2 → ErrV H2 a C f y → Q (.ref a) H2
theorem tErr_ok {σ : L2.St} {H : Hp} {Q : VK} (T : ErrC X.K X.mg nm f C fI fd) (h : tErr C f i σ H Q) : tExv C (spInit X.K f) (tVar i) σ H Q := by
  obtain ⟨y, hy, k⟩ := h
  refine ⟨y, hy, fun a ha => ⟨a, C, y, rfl, T.oex, T.nof, upd_same, fun dx hd nd => ⟨rfl, k a _ (same_init ha hd) ⟨dx, upd_same, ?_⟩⟩⟩⟩
  rw [upd_ne nd, upd_same]
theorem pe_err (T : ErrC X.K X.mg nm f C fI fd) (hr : Room 2 X.A) (hg : Gl X nm) (he : PE X (.Name v ip) (tVar i)) (hdb : (nm == ("__debug__" : Str)) = false := by decide) :
    PE X (.Call (.Name nm p) [.Name v ip] [] pos) (tErr C f i) :=
  peImp (pe_exv T.oex T.ini.iC T.ini.tI (T.ini.ok T.fld) hr pass0 (T.ini.bnd T.fld) hg T.gC he hdb) fun _ _ _ q => tErr_ok T q
theorem pe_errk (T : ErrC X.K X.mg nm f C fI fd) (hr : Room 2 X.A) (hg : Gl X nm) (he : PE X (.Name v ip) (tVar i)) (hdb : (nm == ("__debug__" : Str)) = false := by decide) :
    PE X (.Call (.Name nm p) [] [⟨some f, .Name v ip, kpos⟩] pos) (tErr C f i) :=
  peImp (pe_exk T.oex T.ini.iC T.ini.tI (T.ini.ok T.fld) hr pass0 (T.ini.bnd T.fld) hg T.gC he hdb) fun _ _ _ q => tErr_ok T q
/-- C1(v), C2(v), .. -/
def tErrs (cs : List (Addr × Str)) (i : Nat) : TA := fun σ H Q => ∃ y, σ[i]? = some (some y) ∧ ∀ as H2, Same H H2 → Paired (fun c a => ErrV H2 a c.1 c.2 y) cs as → Q (as.map V.ref) H2
theorem pa_errs0 : PA X [] (tErrs [] i) := paImp pa_nil fun σ H Q ⟨y, hy, k⟩ => k [] H (Same.refl H) .nil
theorem pairedErr {H H' : Hp} {y : V} (e : Same H H') : ∀ {cs : List (Addr × Str)} {as : List Addr}, Paired (fun c a => ErrV H a c.1 c.2 y) cs as → Paired (fun c a => ErrV H' a c.1 c.2 y) cs as
  | _, _, .nil => .nil
  | _, _, .cons h t => .cons (h.same e) (pairedErr e t)
theorem pa_errs {e : Expr} {es : List Expr} {cs : List (Addr × Str)} (he : PE X e (tErr C f i)) (hr : PA X es (tErrs cs i)) (hs : starEach (e :: es) X.env = (false, eval e X.env) :: starEach es X.env := by rfl) : PA X (e :: es) (tErrs ((C, f) :: cs) i) :=
  paImp (pa_cons he hr hs) fun σ H Q ⟨y, hy, k⟩ => ⟨y, hy, fun a H1 s1 e1 => ⟨y, hy, fun as H2 s2 pr => k (a :: as) H2 (s1.trans s2) (.cons (e1.same s2) pr)⟩⟩
end

/-! ### isinstance of one error against many classes -/
section
variable {X : Cx} {nm : Str} {C : Addr} {p pos ip np : Pos} {i : Nat} {v : Str}
/-- whether the error is of each of the classes at cs -/
def kinds (C : Addr) (cs : List Addr) : List V := cs.map fun c => V.bl (decide (C = c))
def tKinds (K : PySem.W.Frag) (cs : List Addr) (i : Nat) : TA := fun σ H Q => ∃ a C, σ[i]? = some (some (.ref a)) ∧ Err H a C ∧ ExcC K C ∧ (∀ c ∈ cs, PySem.W.kitOne K (.ref C) (.ref c) = some (decide (C = c))) ∧ Q (kinds C cs) H
theorem pa_kinds0 : PA X [] (tKinds X.K [] i) := paImp pa_nil fun σ H Q ⟨a, C, _, _, _, _, k⟩ => k
theorem pa_kinds {es : List Expr} {cs : List Addr} (hI : X.mg "isinstance" = none) (hgI : Gl X "isinstance") (gC : X.mg nm = some (.ref C)) (hg : Gl X nm) (he : PE X (.Name v ip) (tVar i)) (hr : PA X es (tKinds X.K cs i))
    (hdb : (nm == ("__debug__" : Str)) = false := by decide)
    (hs : starEach (.Call (.Name "isinstance" p) [.Name v ip, .Name nm np] [] pos :: es) X.env = (false, eval (.Call (.Name "isinstance" p) [.Name v ip, .Name nm np] [] pos) X.env) :: starEach es X.env := by rfl) :
    PA X (.Call (.Name "isinstance" p) [.Name v ip, .Name nm np] [] pos :: es) (tKinds X.K (C :: cs) i) :=
  paImp (pa_cons (pe_callB call_isX hgI hI boot_isinstance (pa_cons he (pa_cons (pe_glob hg gC (v := .ref C) rfl hdb) pa_nil))) hr hs) fun σ H Q ⟨a, D, hσ, hE, hX, hk, k⟩ =>
    ⟨_, hσ, a, D, _, _, _, rfl, hE, hX, .own C, hk C List.mem_cons_self, a, D, hσ, hE, hX, fun c hc => hk c (List.mem_cons_of_mem _ hc), k⟩
end
end Gr

set_option Elab.async false
set_option maxRecDepth 100000
set_option maxHeartbeats 4000000
set_option linter.all false
/-! Ours: try with several clauses «except C as n», the same n in each. -/
namespace Gr
open PySem PySem.Spec PyProof.Rows L2
/-- an end behind the suite: the name of the clause is gone -/
def Gone (i : Nat) (D : Ends) : Ends := { nx := fun σ' H' => D.nx (σ'.set i none) H', rt := D.rt, bk := fun σ' H' => D.bk (σ'.set i none) H', ct := fun σ' H' => D.ct (σ'.set i none) H' }
def wManyAs (K : PySem.W.Frag) (i : Nat) (Wout : WX) (D : Ends) : List (Value × (Addr → Value → Option Addr → TS)) → WX
  | [] => Wout
  | (c, ts) :: r => fun cls d σ H => ∃ b, PySem.W.exmOne K cls c = some b ∧ (b = true → ∀ a, H a = none → ts a cls d (Gone i D) (σ.set i (some (.ref a))) H) ∧ (b = false → wManyAs K i Wout D r cls d σ H)
inductive HdsAs (X : Cx) (n : Str) : List ExceptHandler → List (Value × (Addr → Value → Option Addr → TS)) → Prop
  | nil : HdsAs X n [] []
  | cons {x : Str} {c : Value} {ts : Addr → Value → Option Addr → TS} {b₀ : Stmt} {suite : List Stmt} {np pos' : Pos} {hds : List ExceptHandler} {l : List (Value × (Addr → Value → Option Addr → TS))} (hc : Names X x c)
      (hsu : ∀ (a : Addr) (oe : Obj) (cls : Value) (d : Option Addr) (pn : List (Addr × Obj)), Zc cls d oe → (∃ vs, oe.data = .fields vs) → PSs (X.suite a ((a, oe) :: pn)) (b₀ :: suite) (ts a cls d)) (r : HdsAs X n hds l) :
      HdsAs X n (.ExceptHandler (some (.Name x np)) (some n) (b₀ :: suite) pos' :: hds) ((c, ts) :: l)
section
variable {X : Cx} {body : List Stmt} {h₀ : ExceptHandler} {hds : List ExceptHandler} {l : List (Value × (Addr → Value → Option Addr → TS))} {pos : Pos} {tb : WX → TS} {Wout : WX} {n : Str} {i : Nat}
theorem ps_try_manyAs (hs : X.stack = X.env :: X.outer) (hf : X.env.frame = some X.env.locals) (hN : X.N.Nodup) (hi : X.N[i]? = some n) (hln : X.env.kindOf n = some .local) (tk : Takes X Wout)
    (hb : ∀ (W : WX) (pn : List (Addr × Obj)) (xe : Value → Shared → Prop), Takes (X.tr pn xe) W → PassesOwn (model X.prog X.w) X.A X.env xe → PSs (X.tr pn xe) body (tb W))
    (hh : HdsAs X n (h₀ :: hds) l) : PS X (.Try body (h₀ :: hds) [] [] pos) (fun D σ H => tb (wManyAs X.K i Wout D l) D σ H) := by
  refine ⟨fun pins s σ H D I h => ?_⟩
  have ok := I.ok
  have hfr : X.A.frames = some (X.env :: X.outer) := by rw [ok.frames, hs]
  have hloc : Loc X.env.scope n := .inl hln
  refine wpAny_Try_except ?_
  refine wpAny_mono ((hb (wManyAs X.K i Wout D l) (X.pn ++ pins) (fun e s₁ => wpAny (model X.prog X.w) X.A (noteFrame e X.env) (fun _ s₂ => wpAny (model X.prog X.w) X.A (setFlight e none) (fun _ s₃ =>
    wpAny (model X.prog X.w) X.A (handleBy e X.env (h₀ :: hds)) (SP X pins D) X.xe s₃) X.xe s₂) X.xe s₁) (fun u s' xx => ?_) PassesOwn.looking).run [] s σ H D (I.toTry _) h) (fun f s1 hsp => ?_) (fun e s1 he => he)
  · obtain ⟨a, B, sI, pins', σ', H', cls, d, rfl, J', nb, up, sky, na, os, ag, w⟩ := xx
    have J : Inv X pins σ' H' sI := J'.ofTry ok
    have sky2 : Sky B (X.env :: X.outer) a (Zc cls d) X.env.locals s'.heap := by rw [← hs]; exact sky
    show wpAny (model X.prog X.w) X.A (noteFrame (.ref a) X.env) _ _ _
    refine Sky.land Zc.steady hfr hf sky2 fun h3 fl3 up3 => ?_
    have J3 : Inv X pins σ' H' { s' with heap := h3 } := J.landed nb fl3.1 (up.trans up3) os ag
    obtain ⟨oe3, vs3, he3, hz3, hd3⟩ := fl3.there
    have nfr : a ∉ frs (X.env :: X.outer) := fun hm => by
      obtain ⟨_, o', e', hnf⟩ := fl3.2.2.1.mem hm
      rw [he3] at e'
      cases e'
      exact hnf _ hd3
    have nL : a ≠ X.env.locals := fun z => nfr (List.mem_filterMap.mpr ⟨X.env, List.mem_cons_self, by rw [hf, z]⟩)
    have nF : a ∉ X.fs := fun hm => by
      obtain ⟨e, he, q⟩ := List.mem_filterMap.mp hm
      exact nfr (List.mem_filterMap.mpr ⟨e, List.mem_cons_of_mem _ he, q⟩)
    have S3 := J3.suite he3 hd3 na nL nF
    have go : ∀ {hds' : List ExceptHandler} {l' : List (Value × (Addr → Value → Option Addr → TS))}, HdsAs X n hds' l' → wManyAs X.K i Wout D l' cls d σ' H' →
        wpAny (model X.prog X.w) X.A (handleBy (.ref a) X.env hds') (SP X pins D) X.xe { s' with heap := h3 } := by
      intro hds' l' hk
      induction hk with
      | nil =>
        intro w
        refine wpAny_handleBy_nil ?_
        obtain ⟨k1, k2, k3, oe, vs, T, oT, ts', he, hz, hd, h1, hr⟩ := id fl3
        unfold PySem.passOn
        refine wpAny_bind (wpAny_field he hd h1 ?_)
        rw [if_neg (show ¬ ((Value.ref T == Value.none) = true) from by simp)]
        have fin : wpAny (model X.prog X.w) X.A (setFlight (.ref a) X.env.frame) (fun _ s4 => wpAny (model X.prog X.w) X.A (throw (.ref a) : Sem Flow) (SP X pins D) X.xe s4) X.xe { s' with heap := h3 } := by
          rw [hf]
          refine HandSPX.setFlight_upZ fl3 fun h4 hh4 up4 => wpAny_throw (tk _ _ ?_)
          exact ⟨a, B, sI, pins, σ', H', cls, d, rfl, J, nb, (up.trans up3).trans up4, .inr (.inr (by rw [hs]; exact hh4)), na, os, ag, w⟩
        first
          | exact wpAny_bind (wpAny_pure (wpAny_bind fin))
          | exact wpAny_bind fin
      | @cons x c ts b₀ suite np pos' hds2 l2 hc hsu r ih =>
        intro w
        obtain ⟨b, hb1, hyes, hno⟩ := w
        refine wpAny_handleBy_cons (codeAny_handlers_test ?_) (by intro q; cases q)
        have LT : PySem.W.Looks (model X.prog X.w) h3 (typeOf (.ref a)) cls := fun A Q E s k q => wpAny_typeOf_ref (k _ _ he3) (by rw [hz3.1]; exact q)
        have LM := PySem.W.exm_one (M := model X.prog X.w) (J3.kIn) LT hb1
        have test : ∀ {Q : Value → Shared → Prop} {E : Value → Shared → Prop}, Q c { s' with heap := h3 } → wpAny (model X.prog X.w) (X.A.mark (some (.ref a))) (eval (.Name x np) X.env) Q E { s' with heap := h3 } := fun {Q E} q => by
          obtain ⟨hg, hdbg, hm | ⟨hm, hv, hnn⟩⟩ := hc
          · exact ld_glob (X := X.suite a ((a, oe3) :: (X.pn ++ pins))) S3 hg hm q hdbg
          · exact ld_blt (X := X.suite a ((a, oe3) :: (X.pn ++ pins))) S3 hg hm hv q hnn hdbg
        refine test (LM.here ?_)
        cases b with
        | true =>
          refine codeAny_handlers_suite_as ?_
          refine HandSPX.lands_againZ fl3 fun h4 fl4 up4 => ?_
          have J4 : Inv X pins σ' H' { s' with heap := h4 } := J.landed nb fl4.1 ((up.trans up3).trans up4) os ag
          obtain ⟨oe4, vs4, he4, hz4, hd4⟩ := fl4.there
          have S4 := J4.suite he4 hd4 na nL nF
          refine store_ok (X := X.suite a ((a, oe4) :: (X.pn ++ pins))) (v := .ref a) S4 hN hi hloc rfl (fun s5 S5 => ?_) (.inr hln)
          refine wpAny_mono ((hsu a oe4 cls d (X.pn ++ pins) hz4 ⟨_, hd4⟩).run [] s5 _ H' _ S5 (hyes rfl a na)) (fun f s6 hsp => ?_) (fun _ _ z => False.elim z)
          have last : ∀ {σ6 : L2.St} {H6 : Hp} {Q : Shared → Prop}, Inv (X.suite a ((a, oe4) :: (X.pn ++ pins))) [] σ6 H6 s6 → (∀ s7, Inv X pins (σ6.set i none) H6 s7 → Q s7) →
              wpAny (model X.prog X.w) X.A (do bindName X.env n .none; unbindBehindTheSuite X.env n pos') (fun _ s7 => Q s7) X.xe s6 := fun {σ6 H6 Q} S6 hq => gone_ok (S6.unsuite ok) hN hi hln hq
          match f, hsp with
          | .next, ⟨σ6, H6, S6, q6⟩ => exact last S6 fun s7 J7 => ⟨_, _, J7, q6⟩
          | .brk, ⟨σ6, H6, S6, q6⟩ => exact last S6 fun s7 J7 => ⟨_, _, J7, q6⟩
          | .cont, ⟨σ6, H6, S6, q6⟩ => exact last S6 fun s7 J7 => ⟨_, _, J7, q6⟩
          | .ret u, ⟨v6, σ6, H6, S6, r6, q6⟩ => exact last S6 fun s7 J7 => ⟨_, _, _, J7, r6, q6⟩
        | false =>
          show wpAny _ X.A (handleBy (.ref a) X.env hds2) _ _ _
          exact ih (hno rfl)
    exact go hh w
  · match f, hsp with
    | .next, ⟨σ', H', J', q⟩ => exact wpAny_execs_nil ⟨σ', H', J'.ofTry ok, q⟩
    | .brk, ⟨σ', H', J', q⟩ => exact ⟨σ', H', J'.ofTry ok, q⟩
    | .cont, ⟨σ', H', J', q⟩ => exact ⟨σ', H', J'.ofTry ok, q⟩
    | .ret u, ⟨v, σ', H', J', r, q⟩ => exact ⟨v, σ', H', J'.ofTry ok, r, q⟩
/-- raise C(), an own class without __init__ -/
theorem pmk_exc0 {C : Addr} {bmB : List Value} {B newId initId : String} {x : Str} {p pos : Pos} (F : ExcBaseFacts B newId initId bmB) (q : PySem.W.excIn X.K C bmB newId = true) (gC : X.mg x = some (.ref C)) (kC : PySem.W.keepIn X.K (.ref C) = true) (r : Raises X (.ref C)) (hg : Gl X x)
    (hdb : (x == ("__debug__" : Str)) = false := by decide) : PMk X (.Call (.Name x p) [] [] pos) (fun _ H Q => Q (.ref C) none H) := by
  intro pins s σ H Q I h
  refine wpAny_Call_Name_kw (ld_glob I hg gC (PySem.W.callWith_K0 I.kIn kC ?_) hdb)
  show wpAny _ _ (call (.ref C) []) _ _ _
  obtain ⟨bm, N, nm, qn, bs, hdct, sn, sub, ab, col, dd, k0, k1, k2, k3, k5, mN, hC, hN, hni, T⟩ := exc_obj I.kIn q
  obtain ⟨hp, g, d, t, os⟩ := s
  refine wpAny_call_exc_subT F T hC hN hni (fun h' a hm => ?_) (by show 0 ≤ sizeLine; exact Nat.zero_le _)
  exact mk_of I hm r h (I.hok.gone hm.new)
end
end Gr

set_option Elab.async false
set_option maxRecDepth 100000
set_option maxHeartbeats 4000000
set_option linter.all false
/-! Ours: dealt, and its two ends. -/
namespace KP
open PySem PySem.Spec PyProof.Rows L2 Gr GxR
/-- what is asked of an own exception class without words -/
structure ExcF (K : PySem.W.Frag) (mg : Str → Option Value) (n : Str) (C : Addr) : Prop where
  g : mg n = some (.ref C)
  x : PySem.W.excIn K C [.type "ValueError", .type "Exception", .type "BaseException", .type "object"] "ValueError.__new__" = true
  k : PySem.W.keepIn K (.ref C) = true
  b : PySem.W.subIn K (.ref C) (.type "BaseException") = some true
  t : PySem.W.typeIn K (.ref C) = some (.type "type")
  e : PySem.W.exmOne K (.ref C) (.ref C) = some true
theorem FunC.okX {P : Program} {w : World} {K : PySem.W.Frag} {mg : Str → Option Value} {base : Heap} {x ql : Str} {st : Stmt} {f c : Addr} {fd : FuncData} {N ps : List Str} {k : Nat} {sp : Sp} (F : FunC K x ql st f fd c) (S : FnScope N ps (defScope st)) (len : ∀ vs H Q E, sp vs H Q E → vs.length = ps.length)
    (hb : ∀ (A : Around) (outer : List Env) (s : Shared) (H : Hp) (vs : List V) (Q : VK) (E : XK), Room k (A.deeper (envOfC ql (defScope st) s.heap.objs.size f (.ref c))) → sp vs H Q E →
      ∃ t, PSs (cxOf (L2.CX P w) P w K mg base N ql (defScope st) f (.ref c) A outer s H E) (defBody st) t ∧ t { nx := fun _ H' => Q .non H', rt := Q } (start N vs) H) : FnOk P w K mg base (L2.CX P w) (k + 1) f fd ps sp := by
  obtain ⟨oc, od, kV, doc, pm, an, ct, osl, rfl, lk, hcd⟩ := F.ex
  exact fn_of lk hcd S len fun A outer s H vs Q E hr hsp => hb A outer s H vs Q E hr hsp
def tooB (n D : Int) (p : Int × Int) : Bool := decide (p.1 < n) || decide (12 < p.2 + D)
def tooD : List PyData → PyData × PyData → Bool
  | [.int n, .int D], (.int mo, .int wi) => tooB n D (mo, wi)
  | _, _ => false
def domT (fd : List PyData) (q : PyData × PyData) : Prop := ∃ (n D : Int) (p : Int × Int), fd = [.int n, .int D] ∧ q = inD p
def dealP (ps : List (Int × Int)) (n D : Int) : List (List (Int × Int)) := (List.range n.toNat).map fun i => shareP ps n D (i : Nat)
def spDealt (L : List Addr) (C : Addr) : Sp := fun vs H Q E => ∃ (sv : V) (n D : Int) (ps : List (Int × Int)), vs = [sv, .int n, .int D] ∧ Od H sv (limP ps) ∧ Lm ps ∧ 1 ≤ n ∧ n ≤ 6 ∧ 0 ≤ D ∧ D ≤ 24 ∧ Tb L H ∧
  (ps.any (tooB n D) = false → ∀ z H', UpL L H H' → Od H' z (.tuple ((dealP ps n D).map limP)) → Q z H') ∧ (ps.any (tooB n D) = true → ∀ H', UpL L H H' → E (.ref C) none H')
section
variable {P : Program} {w : World} {K : PySem.W.Frag} {mg : Str → Option Value} {base : Heap} {C : Addr}
theorem sc_dealt : FnScope ["shared", "many", "late", "crawler"] ["shared", "many", "late"] (defScope s_dealt) := ⟨rfl, rfl, rfl, by decide +kernel, rfl, by decide +kernel, by decide +kernel⟩
theorem ok_dealt (T : D K mg) (TB : Tabs base T) (B : ExcF K mg "NoShare" C) : FnOk P w K mg base (L2.CX P w) 7 T.f_dealt T.d_dealt ["shared", "many", "late"] (spDealt (tabs T) C) := by
  refine T.V_dealt.okX sc_dealt (fun vs H Q E h => ?_) (fun A outer s H vs Q E hr h => ?_)
  · obtain ⟨sv, n, D, ps, rfl, _⟩ := h
    rfl
  · obtain ⟨sv, n, D, ps, rfl, hS, hg, n1, n6, d0, d1, hT, k1, k2⟩ := h
    have nd := sc_dealt.nd
    have mz : 5000 ≤ sizeLine := by decide
    refine ⟨_, pss_cons (ps_expr (pe_call (ok_chk T TB) hr rfl T.g_check_limits T.U_check_limits.kp T.b_check_limits .nil pass0 (pa_cons (pv 0) pa_nil)))
      (pss_cons (ps_expr (pe_call (ok_ckb T) (hr.mono (by decide)) rfl T.g_check_between T.U_check_between.kp T.b_check_between .nil pass0 (pa_cons (pv 1) (pa_cons pe_int (pa_cons (pe_glob (v := .int 6) rfl T.g_MOST_PARTS ⟨_, rfl⟩) pa_nil)))))
      (pss_cons (ps_expr (pe_call (ok_ckb T) (hr.mono (by decide)) rfl T.g_check_between T.U_check_between.kp T.b_check_between .nil pass0 (pa_cons (pv 2) (pa_cons pe_int (pa_cons (pe_glob (v := .int 24) rfl T.g_LATEST ⟨_, rfl⟩) pa_nil)))))
      (pss_cons (ps_if (pt_val (pe_anyTF (xs := ["many", "late"]) (is := [1, 2]) (dom := domT) (pb := tooD) (k := 1) (hr.mono (by decide)) (by rfl) T.any TB.b rfl
          ⟨rfl, rfl, by decide +kernel, by rfl, by rfl, by rfl, by decide, ?_, .cons rfl (by rfl) (by decide +kernel) (.cons rfl (by rfl) (by decide +kernel) .nil)⟩ (pv 0)
          (fun en m h0 va vb q fd hsc Cx hma hmb ra rb hf hd => ?_) (fun _ => rfl)))
        (pss_one (ps_raise rfl (takes_of rfl rfl rfl rfl) (pmk_exc0 PySem.F.excBase_ValueError B.x B.g B.k (raises_own B.b B.t) rfl)))
        (pss_nil))
      (pss_one (ps_ret (pe_callTy call_tuple_of (by rfl) T.tuple (by decide +kernel) (pa_cons (pe_lc (own := [("crawler", 3)]) (g := gName 3) (tt := tYes) rfl nd (pi_range1 rfl T.range (pa_cons (pv 1) pa_nil)) (blkOk_by (N := ["shared", "many", "late", "crawler"]) (sc := defScope s_dealt) (by decide +kernel)) (fun _ _ _ _ _ => pg_name (i := 3) nd rfl (.inl rfl)) (fun _ _ _ _ _ => pts_nil) (fun _ _ _ _ _ => pe_call (ok_share T) (hr.mono (by decide)) rfl T.g_share_of T.U_share_of.kp T.b_share_of .nil pass0 (pa_cons (pv 0) (pa_cons (pv 1) (pa_cons (pv 2) (pa_cons (pv 3) pa_nil)))))) pa_nil))))))), ?_⟩
    · intro y hy e
      simp only [List.mem_cons, List.not_mem_nil, or_false] at hy
      rcases hy with rfl | rfl | rfl | rfl | rfl | rfl
      · cases e
      · cases e
      · cases e
      · exact ⟨_, rfl⟩
      · exact ⟨_, rfl⟩
      · cases e
    · obtain ⟨n', D', p, rfl, rfl⟩ := hd
      cases hf with
      | cons c1 i1 r1 z1 hf =>
        cases hf with
        | cons c2 i2 r2 z2 _ =>
          have e : tooD [.int n', .int D'] (inD p) = (decide (p.1 < n') || decide (12 < p.2 + D')) := rfl
          rw [e]
          have nmany : ∀ {pos : Pos}, QE P w base h0 1 en m (.Name "many" pos) (.int n') := fun {pos} => qe_free Cx (by rw [hsc]; decide +kernel) c1 i1 r1
          have nlate : ∀ {pos : Pos}, QE P w base h0 1 en m (.Name "late" pos) (.int D') := fun {pos} => qe_free Cx (by rw [hsc]; decide +kernel) c2 i2 r2
          have nmost : ∀ {pos : Pos}, QE P w base h0 1 en m (.Name "most" pos) (.int p.1) := fun {pos} => qe_name Cx (by rw [hsc]; decide +kernel) hma ra
          have nwide : ∀ {pos : Pos}, QE P w base h0 1 en m (.Name "wide" pos) (.int p.2) := fun {pos} => qe_name Cx (by rw [hsc]; decide +kernel) hmb rb
          refine qe_or (qe_lt nmost nmany) (fun hf => qe_one ?_)
          exact qe_gt (qe_add nwide nlate) (qe_gint Cx (by rw [hsc]; decide +kernel) T.g_WIDEST)
    · refine ⟨_, rfl, sv, _, rfl, hS, lims_good hg.1 hg.2, hT, fun H1 u1 => ?_⟩
      have st1 := u1.stay hT
      refine ⟨_, rfl, n, 1, 6, rfl, n1, n6, ?_⟩
      refine ⟨_, rfl, D, 0, 24, rfl, d0, d1, ?_⟩
      have hS1 := hS.stay st1
      refine ⟨_, rfl, ps.map inD, [.int n, .int D], hS1.dq, .cons rfl (.int n) (.cons rfl (.int D) .nil), fun q hq => ?_, u1.1 _ (by simp [tabs]), fun H2 t2 => ⟨_, rfl, ?_⟩⟩
      · obtain ⟨p, hp, rfl⟩ := List.mem_map.mp hq
        exact ⟨n, D, p, rfl, rfl⟩
      have u2 := u1.trans (.tab u1.1 t2 (by simp [tabs]))
      have st2 := u2.stay hT
      have e : (ps.map inD).any (tooD [.int n, .int D]) = ps.any (tooB n D) := by
        rw [List.any_map]
        rfl
      rw [e]
      cases hb : ps.any (tooB n D) with
      | true => exact iteT (k2 hb H2 u2)
      | false =>
        refine iteF (next_of ?_)
        dsimp only
        have hS2 := hS.stay st2
        refine ⟨_, rfl, n, rfl, by omega, by omega, fun Dn hDn => lc_range (n := _) (fun i Hx => Same H2 Hx ∧ (∃ us, Hx Dn = some (.lst us) ∧ us.length = i) ∧ LstT Hx Dn ((((List.range i).map fun j => shareP ps n D (j : Nat)).map limP))) ⟨same_upd hDn, ⟨[], upd_same, rfl⟩, LstT.at upd_same⟩ ?_ ?_⟩
        · rintro i Hx hi ⟨sx, ⟨us, eu, lu⟩, lt⟩
          refine ⟨wipe1, ?_⟩
          unfold tYes
          dsimp only
          rw [if_pos rfl]
          rw [Int.zero_add]
          have hi6 : i < 6 := by omega
          refine ⟨_, rfl, _, rfl, _, rfl, _, rfl, sv, n, D, (i : Nat), ps, rfl, hS2.same sx, hg, n1, n6, fun z H3 s3 oz => ?_⟩
          refine ⟨us, s3 _ _ eu, by omega, same_into hDn (sx.trans s3), ⟨_, upd_same, by rw [List.length_append, lu]; rfl⟩, ?_⟩
          rw [List.range_succ, List.map_append, List.map_append]
          exact (lt.same s3).put (s3 _ _ eu) oz (tup_lim _)
        · rintro Hx ⟨sx, ⟨us, eu, lu⟩, lt⟩
          refine ⟨Dn, us, rfl, .inl ⟨SqL.of eu, fun R hR => ?_⟩⟩
          refine k1 hb _ _ (u2.trans (.same u2.1 (sx.trans (same_upd hR)))) ?_
          have := lt.tup eu hR
          unfold dealP
          exact this
end
end KP

set_option Elab.async false
set_option maxRecDepth 100000
set_option linter.all false
/-! Ours: dealt shares keep the shared limits: the mathematics. -/
namespace KP
open PySem PySem.Spec PyProof.Rows L2 Gr GxR
theorem row_ex {ps : List (Int × Int)} {hs : List Int} {st : Int} (hp : ∀ p ∈ ps, 1 ≤ p.1) (ho : ∃ j : Nat, ∃ h : j < hs.length, hs[j] = 1) : ∀ N : Nat, ∃ ts, SRow ps hs [] st ts ∧ ts.length = N
  | 0 => ⟨[], SRow.nil, rfl⟩
  | N + 1 => by
    obtain ⟨ts, sr, l⟩ := row_ex (st := st) hp ho N
    obtain ⟨t, nx⟩ := nxt_some (ps := ps) (hs := hs) (rs := ts) (st := st) hp ho
    exact ⟨ts ++ [t], sr.snoc (by rw [List.nil_append]; exact nx), by rw [List.length_append, l]; rfl⟩
theorem mst_row {ps : List (Int × Int)} {hs ts : List Int} {st e : Int} (sr : SRow ps hs [] st ts) {i : Nat} (hi : i < ts.length) (h : e ≤ ts[i]) : ∃ m, Mst ps hs st e m ∧ m ≤ i := by
  obtain ⟨m, ⟨hm, he⟩, hl⟩ := least_nat (P := fun k => ∃ h : k < ts.length, e ≤ ts[k]) i ⟨hi, h⟩
  have hmi : m ≤ i := by
    by_cases z : m ≤ i
    · exact z
    · exact absurd ⟨hi, h⟩ (hl i (by omega))
  refine ⟨m, ⟨ts.take m, sr.take m, by rw [List.length_take]; omega, fun t ht => ?_, fun t nx => ?_⟩, hmi⟩
  · obtain ⟨j, hj, rfl⟩ := List.getElem_of_mem ht
    rw [List.length_take] at hj
    rw [List.getElem_take]
    have := hl j (by omega)
    by_cases z : ts[j] < e
    · exact z
    · exact absurd ⟨by omega, by omega⟩ this
  · have n := sr m hm
    rw [List.nil_append] at n
    rw [nx.one n]
    exact he
theorem mst_ex {ps : List (Int × Int)} (h0 : ps ≠ []) (g : Lm ps) {n : Int} (n0 : 0 ≤ n) : ∃ m, Mst ps [1] 0 n m ∧ (m : Int) ≤ 6 * n := by
  obtain ⟨p, l, rfl⟩ := List.exists_cons_of_ne_nil h0
  have hq := g.c p List.mem_cons_self
  obtain ⟨ts, sr, lt⟩ := row_ex (ps := p :: l) (hs := [1]) (st := 0) (fun q hq => (g.2 q hq).1) ⟨0, Nat.zero_lt_one, rfl⟩ (6 * n.toNat + 1)
  have gr := row_grow List.mem_cons_self (K := 6) ⟨hq.1, hq.2.1⟩ (W := 1) hq.2.2 (by decide) sr n.toNat (6 * n.toNat) (by omega) (by omega)
  obtain ⟨m, hm, hi⟩ := mst_row sr (i := 6 * n.toNat) (by omega) (e := n) (by omega)
  exact ⟨m, hm, by omega⟩
theorem mw_spec {ps : List (Int × Int)} (h0 : ps ≠ []) (g : Lm ps) {n : Int} (n0 : 0 ≤ n) : Mst ps [1] 0 n (mw ps n) ∧ ((mw ps n : Nat) : Int) ≤ 6 * n := by
  obtain ⟨m, h, l⟩ := mst_ex h0 g n0
  rw [mw_of h]
  exact ⟨h, l⟩
/-- how many stand in the w moments up to x -/
def win (x w : Int) (l : List Int) : Nat := l.countP fun a => decide (x - w < a) && decide (a ≤ x)
theorem win_le_above {x w a : Int} (h : a ≤ x) (l : List Int) : win x w l ≤ above (a - w) l := List.countP_mono_left fun y _ hy => by
  simp only [Bool.and_eq_true, decide_eq_true_eq] at hy ⊢
  omega
theorem row_win {ps : List (Int × Int)} {hs ts : List Int} {st : Int} (sr : SRow ps hs [] st ts) {p : Int × Int} (hp : p ∈ ps) (h1 : 1 ≤ p.1) (x : Int) : ((win x p.2 ts : Nat) : Int) ≤ p.1 := by
  have key : ∀ j, j ≤ ts.length → ((win x p.2 (ts.take j) : Nat) : Int) ≤ p.1 := fun j => by
    induction j with
    | zero => intro _; rw [List.take_zero]; show (0 : Int) ≤ p.1; omega
    | succ j ih =>
      intro hj
      have hj' : j < ts.length := by omega
      have e : win x p.2 (ts.take (j + 1)) = win x p.2 (ts.take j) + (if (decide (x - p.2 < ts[j]) && decide (ts[j] ≤ x)) = true then 1 else 0) := by
        unfold win
        rw [List.take_add_one, List.getElem?_eq_getElem hj', List.countP_append]
        show _ + List.countP _ [ts[j]] = _
        rw [List.countP_singleton]
      rw [e]
      by_cases z : (decide (x - p.2 < ts[j]) && decide (ts[j] ≤ x)) = true
      · rw [if_pos z]
        simp only [Bool.and_eq_true, decide_eq_true_eq] at z
        have a := List.all_eq_true.mp (sr j hj').all p hp
        rw [List.nil_append, ap_count (row_srt0 (sr.take j)) h1] at a
        have a := of_decide_eq_true a
        have b := win_le_above (x := x) (w := p.2) z.2 (ts.take j)
        omega
      · rw [if_neg z]
        have := ih (by omega)
        omega
  have := key ts.length (Nat.le_refl _)
  rwa [List.take_of_length_le (Nat.le_refl _)] at this
theorem win_arr {x W D : Int} (d0 : 0 ≤ D) {ts : List Int} (h : ∀ a ∈ ts, 0 ≤ a) : win x W (ts.map (max · D)) ≤ win x (W + D) ts := by
  unfold win
  rw [List.countP_map]
  refine List.countP_mono_left fun a ha hy => ?_
  have := h a ha
  simp only [Function.comp, Bool.and_eq_true, decide_eq_true_eq] at hy ⊢
  omega
def partK (n : Int) (p : Int × Int) (i : Nat) : Int := p.1 / n + (if (i : Int) < p.1 % n then 1 else 0)
theorem share_mem {ps : List (Int × Int)} {p : Int × Int} (hp : p ∈ ps) (n D : Int) (i : Nat) : (partK n p i, p.2 + D) ∈ shareP ps n D (i : Nat) := List.mem_map.mpr ⟨p, hp, rfl⟩
theorem ind_sum {r : Int} (r0 : 0 ≤ r) : ∀ n : Nat, ((List.range n).map fun i : Nat => (if (i : Int) < r then (1 : Int) else 0)).sum = if (n : Int) ≤ r then (n : Int) else r
  | 0 => by
    rw [if_pos (by exact r0)]
    rfl
  | n + 1 => by
    rw [List.range_succ, List.map_append, List.sum_append, ind_sum r0 n]
    show _ + ((if (n : Int) < r then (1 : Int) else 0) + 0) = _
    by_cases z : (n : Int) < r
    · rw [if_pos (by omega), if_pos z, if_pos (by omega)]
      omega
    · rw [if_neg z, if_neg (show ¬ (((n + 1 : Nat) : Nat) : Int) ≤ r by omega)]
      by_cases y : (n : Int) ≤ r
      · rw [if_pos y]; omega
      · rw [if_neg y]; omega
theorem const_sum (c : Int) : ∀ n : Nat, ((List.range n).map fun _ : Nat => c).sum = n * c
  | 0 => by simp
  | n + 1 => by
    rw [List.range_succ, List.map_append, List.sum_append, const_sum c n]
    show _ + (c + 0) = _
    rw [Int.natCast_add, Int.add_mul]
    simp
theorem add_sum (f g : Nat → Int) : ∀ n : Nat, ((List.range n).map fun i => f i + g i).sum = ((List.range n).map f).sum + ((List.range n).map g).sum
  | 0 => rfl
  | n + 1 => by
    rw [List.range_succ, List.map_append, List.map_append, List.map_append, List.sum_append, List.sum_append, List.sum_append, add_sum f g n]
    show _ + ((f n + g n) + 0) = (_ + (f n + 0)) + (_ + (g n + 0))
    omega
theorem part_sum {p : Int × Int} {n : Nat} (n1 : 1 ≤ n) : ((List.range n).map (partK (n : Nat) p)).sum = p.1 := by
  have e : ((List.range n).map (partK (n : Nat) p)) = (List.range n).map fun i => (fun _ : Nat => p.1 / ((n : Nat) : Int)) i + (fun i : Nat => if (i : Int) < p.1 % ((n : Nat) : Int) then (1 : Int) else 0) i := rfl
  rw [e, add_sum, const_sum, ind_sum (Int.emod_nonneg _ (by omega))]
  have := Int.emod_lt_of_pos p.1 (b := ((n : Nat) : Int)) (by omega)
  rw [if_neg (by omega)]
  exact Int.mul_ediv_add_emod p.1 _
theorem sum_mono {f g : Nat → Int} : ∀ {n : Nat}, (∀ i, i < n → f i ≤ g i) → ((List.range n).map f).sum ≤ ((List.range n).map g).sum
  | 0, _ => Int.le_refl _
  | n + 1, h => by
    rw [List.range_succ, List.map_append, List.map_append, List.sum_append, List.sum_append]
    have := sum_mono (n := n) fun i hi => h i (by omega)
    have := h n (by omega)
    show _ + (f n + 0) ≤ _ + (g n + 0)
    omega
/-- a share's most asks in the delayed moments -/
theorem mw_part {ps : List (Int × Int)} {p : Int × Int} (hp : p ∈ ps) {n D : Int} {i : Nat} (g : Lm (shareP ps n D (i : Nat))) (w0 : 0 ≤ p.2 + D) : ((mw (shareP ps n D (i : Nat)) (p.2 + D) : Nat) : Int) ≤ partK n p i := by
  have hm := share_mem hp n D i
  obtain ⟨⟨ts, h1, h2, h3, h4⟩, _⟩ := mw_spec (List.ne_nil_of_mem hm) g w0
  have a := row_win h1 hm (g.2 _ hm).1 (p.2 + D - 1)
  have e : win (p.2 + D - 1) (p.2 + D) ts = ts.length := by
    unfold win
    refine List.countP_eq_length.mpr fun t ht => ?_
    have := h3 t ht
    have := row_from h1 t ht
    simp only [Bool.and_eq_true, decide_eq_true_eq]
    omega
  have a : ((win (p.2 + D - 1) (p.2 + D) ts : Nat) : Int) ≤ partK n p i := a
  rw [e, h2] at a
  exact a
/-- sorted asks with no full window are polite -/
theorem polite_win {ps : List (Int × Int)} {ms : List Int} (hp : ∀ p ∈ ps, 1 ≤ p.1 ∧ 1 ≤ p.2) (sr : Srt ms) (h : ∀ p ∈ ps, ∀ x, ((win x p.2 ms : Nat) : Int) ≤ p.1) : Polite ps [1] ms := fun j hj => by
  have eg : ms.getD j 0 = ms[j] := by rw [List.getD_eq_getElem?_getD, List.getElem?_eq_getElem hj]; rfl
  unfold politeAt
  rw [eg, open_one, Bool.true_and]
  refine List.all_eq_true.mpr fun p hp' => ?_
  have hsr : Srt (ms.take j) := fun a b ha hb hab => by
    rw [List.length_take] at ha hb
    rw [List.getElem_take, List.getElem_take]
    exact sr a b (by omega) (by omega) hab
  rw [ap_count hsr (hp p hp').1]
  refine decide_eq_true ?_
  have a := h p hp' ms[j]
  have hw := (hp p hp').2
  have e : win ms[j] p.2 ms = win ms[j] p.2 (ms.take j) + win ms[j] p.2 (ms.drop j) := by
    unfold win
    rw [← List.countP_append, List.take_append_drop]
  have b : above (ms[j] - p.2) (ms.take j) ≤ win ms[j] p.2 (ms.take j) := List.countP_mono_left fun y hy hz => by
    obtain ⟨i, hi, rfl⟩ := List.getElem_of_mem hy
    rw [List.length_take] at hi
    rw [List.getElem_take] at hz ⊢
    have := sr i j (by omega) hj (by omega)
    simp only [Bool.and_eq_true, decide_eq_true_eq] at hz ⊢
    omega
  have c : 1 ≤ win ms[j] p.2 (ms.drop j) := by
    unfold win
    rw [List.drop_eq_getElem_cons hj, List.countP_cons_of_pos (by simp only [Bool.and_eq_true, decide_eq_true_eq]; omega)]
    omega
  omega
theorem srt_of_pairwise : ∀ {l : List Int}, l.Pairwise (· ≤ ·) → Srt l := fun {l} h i j hi hj hij => by
  by_cases z : i = j
  · subst z; exact Int.le_refl _
  · exact List.pairwise_iff_getElem.mp h i j hi hj (by omega)
theorem cast_sum (f : Nat → Nat) : ∀ n : Nat, ((((List.range n).map f).sum : Nat) : Int) = ((List.range n).map fun i => ((f i : Nat) : Int)).sum
  | 0 => rfl
  | n + 1 => by
    rw [List.range_succ, List.map_append, List.map_append, List.sum_append, List.sum_append, Int.natCast_add, cast_sum f n]
    rfl
/-- the asks of all, as they come, keep the shared limits -/
theorem close_polite {ps : List (Int × Int)} {n : Nat} {D : Int} {tss : List (List Int)} {ms : List Int} (n1 : 1 ≤ n) (d0 : 0 ≤ D) (g : Lm ps) (gs : ∀ i, i < n → Lm (shareP ps (n : Nat) D (i : Nat))) (lt : tss.length = n) (hr : ∀ (i : Nat) (h : i < tss.length), SRow (shareP ps (n : Nat) D (i : Nat)) [1] [] 0 tss[i]) (hs : ms.Pairwise (· ≤ ·)) (hm : ms.Perm (tss.flatMap fun ts => ts.map (max · D))) : Polite ps [1] ms := by
  refine polite_win (fun p hp => ⟨(g.2 p hp).1, (g.2 p hp).2.2.1⟩) (srt_of_pairwise hs) fun p hp x => ?_
  have e : win x p.2 ms = (tss.map fun ts => win x p.2 (ts.map (max · D))).sum := by
    unfold win
    rw [hm.countP_eq, List.countP_flatMap]
    rfl
  have e2 : ((win x p.2 ms : Nat) : Int) = ((List.range n).map fun i => ((win x p.2 ((tss.getD i []).map (max · D)) : Nat) : Int)).sum := by
    rw [e]
    have e3 : (tss.map fun ts => win x p.2 (ts.map (max · D))) = (List.range n).map fun i => win x p.2 ((tss.getD i []).map (max · D)) := by
      refine List.ext_getElem (by simp [lt]) fun i h1 h2 => ?_
      simp only [List.getElem_map, List.getElem_range]
      rw [List.length_map] at h1
      rw [List.getD_eq_getElem?_getD, List.getElem?_eq_getElem h1]
      rfl
    rw [e3, cast_sum]
  rw [e2, ← part_sum (p := p) n1]
  refine sum_mono fun i hi => ?_
  have hi' : i < tss.length := by omega
  rw [List.getD_eq_getElem?_getD, List.getElem?_eq_getElem hi']
  have r := hr i hi'
  have a := win_arr (x := x) (W := p.2) d0 (ts := tss[i]) (fun a ha => row_from r a ha)
  have hm' := share_mem hp (n : Nat) D i
  have b := row_win r hm' ((gs i hi).2 _ hm').1 x
  have b : ((win x (p.2 + D) tss[i] : Nat) : Int) ≤ partK (n : Nat) p i := b
  show ((win x p.2 (tss[i].map (max · D)) : Nat) : Int) ≤ _
  omega
end KP

set_option Elab.async false
set_option maxRecDepth 100000
set_option maxHeartbeats 4000000
set_option linter.all false
/-! Ours: a call with keywords that may raise; data for == ; what can be laid. -/
namespace Gr
open PySem PySem.Spec PyProof.Rows L2 GxR
def tCallNS (n m : Nat) (sp : Sp) (gV : List V → List V → List V) (E : L2.St → XK) (t tk : TA) : TE := fun σ H Q => t σ H fun vs H1 => tk σ H1 fun zs H2 => vs.length = n ∧ zs.length = m ∧ sp (gV vs zs) H2 Q (E σ)
section
variable {X : Cx} {CX : CXT} {k n : Nat} {f : Addr} {fd : FuncData} {ps ks : List Str} {sp : Sp} {E : L2.St → XK} {x : Str} {p pos : Pos} {e : Expr} {es : List Expr} {kws : List Keyword} {t tk : TA} {g : List Value → List Value → List Value} {gV : List V → List V → List V}
theorem run_fnNS {pins : List (Addr × Obj)} {σ : L2.St} {H : Hp} {s : Shared} {Q : VK} {us ws : List Value} {vs zs : List V} (F : FnOk X.prog X.w X.K X.mg X.base CX k f fd ps sp) (hr : Room k X.A) (hb : KBn X.K fd ps n ks g gV) (hx : PassesAt CX X σ (E σ))
    (I : Inv X pins σ H s) (r : Vals vs us) (rz : Vals zs ws) (l1 : vs.length = n) (l2 : zs.length = ks.length) (h : sp (gV vs zs) H Q (E σ)) : wpAny (model X.prog X.w) X.A (call (.ref f) us (ks.zip ws)) (EP X pins σ Q) X.xe s := by
  have r2 := hb.rel r rz
  refine wpAny_call (codeAny_mono (F.run X.A X.stack s H ⟨us, ks.zip ws⟩ (g us ws) (gV vs zs) Q (E σ) hr I.env0 (hb.to s us ws I.kIn (r.length.symm.trans l1) (rz.length.symm.trans l2)) r2 h) fun r s' hq => ?_)
  cases r with
  | error e => exact hx pins H s e s' I hq
  | ok fl =>
    cases fl with
    | ret u => exact I.after hq
    | next => exact False.elim hq
    | brk => exact False.elim hq
    | cont => exact False.elim hq
/-- f(e, .., k = v, ..) that may raise -/
theorem pe_callNS (F : FnOk X.prog X.w X.K X.mg X.base CX k f fd ps sp) (hr : Room k X.A) (hg : Gl X x) (hm : X.mg x = some (.ref f)) (hk : PySem.W.keepIn X.K (.ref f) = true) (hb : KBn X.K fd ps n ks g gV) (hx : ∀ σ, PassesAt CX X σ (E σ))
    (ha : PA X (e :: es) t) (hkw : PK X kws tk) (hall : (backToKw pos (keywordEach kws X.env)).all (·.1.isSome) = true := by rfl) (hks : (backToKw pos (keywordEach kws X.env)).filterMap (·.1) = ks := by rfl)
    (hdb : (x == ("__debug__" : Str)) = false := by decide) (he : starEach (e :: es) X.env = (false, eval e X.env) :: starEach es X.env := by rfl)
    (hpl : ((backTo pos (starEach (e :: es) X.env)).any (·.1) || (backToKw pos (keywordEach kws X.env)).any (·.1.isNone)) = false := by rfl) :
    PE X (.Call (.Name x p) (e :: es) kws pos) (tCallNS n ks.length sp gV E t tk) := by
  refine ⟨fun pins s σ H Q I h => ?_⟩
  refine wpAny_Call_Name_kw (ld_glob I hg hm ?_ hdb)
  refine PySem.W.callWith_KW (h₀ := X.base) I.ok.mod.kin hk hall (thn (ha.run pos pins s σ H _ I h) fun us s1 ⟨vs, H1, I1, r, q⟩ => ?_) hpl he
  refine thn (hkw.run pos pins s1 σ H1 _ I1 q) fun ws s2 ⟨zs, H2, I2, rz, l1, l2, q2⟩ => ⟨I2.kIn, ?_⟩
  rw [hks]
  exact run_fnNS F hr hb (hx σ) I2 r rz l1 l2 q2
end
mutual
theorem Od.dp {K : PySem.W.Frag} {H : Hp} : ∀ {v : V} {d : PyData}, Od H v d → tupD d = true → Dp K H v d
  | _, _, .non, _ => .non
  | _, _, .bl b, _ => .bl b
  | _, _, .int i, _ => .int i
  | _, _, .str x, _ => .str x
  | _, _, .lst e a, h => by simp [tupD] at h
  | _, _, .tup e a, h => .tup (SqT.of e) (OdAll.dp a (by simpa [tupD] using h))
  | _, _, .dic e a b, h => by simp [tupD] at h
theorem OdAll.dp {K : PySem.W.Frag} {H : Hp} : ∀ {vs : List V} {ds : List PyData}, OdAll H vs ds → tupDs ds = true → DpAll K H vs ds
  | _, _, .nil, _ => .nil
  | _, _, .cons a b, h => by
    simp only [tupDs, Bool.and_eq_true] at h
    exact .cons (Od.dp a h.1) (OdAll.dp b h.2)
end
/-- what == takes -/
def Shp (k : Nat) (d : PyData) : Prop := d.canLay0 = true ∧ d.depth ≤ k
theorem shp_int (i : Int) : Shp 1 (.int i) := ⟨by simp [PyData.canLay0], by simp [PyData.depth]⟩
theorem shp_bool (b : Bool) : Shp 1 (.bool b) := ⟨by simp [PyData.canLay0], by simp [PyData.depth]⟩
theorem shp_none : Shp 1 .none := ⟨by simp [PyData.canLay0], by simp [PyData.depth]⟩
theorem lay_all : ∀ {ds : List PyData} {k : Nat}, (∀ d ∈ ds, Shp k d) → PyData.canLayAll0 ds = true ∧ PyData.depthAll ds ≤ k + 1
  | [], k, _ => ⟨by simp [PyData.canLayAll0], by simp [PyData.depthAll]⟩
  | d :: ds, k, h => by
    have a := h d List.mem_cons_self
    have b := lay_all (ds := ds) fun x hx => h x (List.mem_cons_of_mem _ hx)
    refine ⟨by simp [PyData.canLayAll0, a.1, b.1], ?_⟩
    simp only [PyData.depthAll]
    have := a.2
    have := b.2
    omega
theorem shp_tup {ds : List PyData} {k : Nat} (h : ∀ d ∈ ds, Shp k d) : Shp (k + 2) (.tuple ds) := by
  have b := lay_all h
  refine ⟨by rw [PyData.canLay0]; exact b.1, ?_⟩
  simp only [PyData.depth]
  have := b.2
  omega
theorem shp_lst {ds : List PyData} {k : Nat} (h : ∀ d ∈ ds, Shp k d) : Shp (k + 2) (.list ds) := by
  have b := lay_all h
  refine ⟨by rw [PyData.canLay0]; exact b.1, ?_⟩
  simp only [PyData.depth]
  have := b.2
  omega
theorem Shp.ok {k : Nat} {d : PyData} (h : Shp k d) (a : k ≤ 64 := by decide) : SeqAt.shaped d = true := by
  unfold SeqAt.shaped
  rw [Bool.and_eq_true, decide_eq_true_eq]
  exact ⟨h.1, Nat.le_trans h.2 a⟩
theorem Shp.mono {k j : Nat} {d : PyData} (h : Shp k d) (a : k ≤ j) : Shp j d := ⟨h.1, Nat.le_trans h.2 a⟩
end Gr

set_option Elab.async false
set_option maxRecDepth 100000
set_option maxHeartbeats 4000000
set_option linter.all false
/-! Ours: the law's dealt, below, close. -/
namespace KP
open PySem PySem.Spec PyProof.Rows L2 Gr GxR
noncomputable def belowI (ps : List (Int × Int)) (n : Int) : Int := if ps = [] then 99 else (mw ps n : Nat)
def dueD (ps : List (Int × Int)) (n D : Int) : PyData := if ps.any (tooB n D) = true then .tuple [.str "none"] else .tuple ((dealP ps n D).map limP)
def spLDealt (L : List Addr) : Sp := fun vs H Q _ => ∃ (sv : V) (n D : Int) (ps : List (Int × Int)), vs = [sv, .int n, .int D] ∧ Od H sv (limP ps) ∧ Lm ps ∧ 1 ≤ n ∧ n ≤ 6 ∧ 0 ≤ D ∧ D ≤ 24 ∧ Tb L H ∧ ∀ z H', UpL L H H' → Od H' z (dueD ps n D) → Q z H'
def spBelow : Sp := fun vs H Q _ => ∃ (lv : V) (n : Int) (ps : List (Int × Int)), vs = [lv, .int n] ∧ Od H lv (limP ps) ∧ Lm ps ∧ 0 ≤ n ∧ n ≤ 100 ∧ ∀ H', Same H H' → Q (.int (belowI ps n)) H'
def spClose : Sp := fun vs H Q _ => ∃ (ev : V) (D w : Int) (Ls : List (List (Int × Int))), vs = [ev, .int D, .int w] ∧ Od H ev (.tuple (Ls.map limP)) ∧ Ls.length ≤ 6 ∧ (∀ l ∈ Ls, Lm l ∧ l ≠ []) ∧ 0 ≤ D ∧ D ≤ 24 ∧ 1 ≤ w ∧ w + D ≤ 12 ∧
  ∀ z H' (tss : List (List Int)) (ms : List Int), Same H H' → IsI H' z ms → tss.length = Ls.length → (∀ (i : Nat) (h : i < tss.length) (h2 : i < Ls.length), SRow Ls[i] [1] [] 0 tss[i]) → ms.Pairwise (· ≤ ·) → ms.Perm (tss.flatMap fun ts => ts.map (max · D)) → ms.length ≤ 1000 → Q z H'
theorem shp_lim (ps : List (Int × Int)) : Shp 5 (limP ps) := shp_tup (k := 3) fun d hd => by
  obtain ⟨q, hq, rfl⟩ := List.mem_map.mp hd
  obtain ⟨p, _, rfl⟩ := List.mem_map.mp hq
  exact shp_tup (k := 1) fun d hd => by
    simp only [inD, List.mem_cons, List.not_mem_nil, or_false] at hd
    rcases hd with rfl | rfl <;> exact shp_int _
theorem eqv_nilT (ds : List PyData) : PyData.eqv (.tuple ds) (.tuple []) = ds.isEmpty := by
  cases ds with
  | nil => rfl
  | cons a l => rfl
theorem eqv_nilL (ds : List PyData) : PyData.eqv (.list ds) (.list []) = ds.isEmpty := by
  cases ds with
  | nil => rfl
  | cons a l => rfl
theorem lim_emp (ps : List (Int × Int)) : ((ps.map inD).map tw).isEmpty = ps.isEmpty := by cases ps <;> rfl
section
variable {P : Program} {w : World} {K : PySem.W.Frag} {mg : Str → Option Value} {base : Heap} {C : Addr}
theorem kn_dealt (T : D K mg) : KBn K T.d_dealt ["shared", "many", "late"] 2 ["late"] (fun us ws => us ++ ws) (fun us ws => us ++ ws) := by
  refine ⟨fun s us ws _ h1 h2 => ?_, fun {vs us zs ws} h1 h2 => ?_⟩
  · obtain ⟨oc, od, kV, doc, pm, an, cdv, ct, osl, e, lk, hcd⟩ := T.U_dealt.ex
    match us, ws, h1, h2 with
    | [_, _], [_], _, _ =>
      rw [e]
      exact .of_eq rfl
  · exact h1.append h2
theorem sc_ldealt : FnScope ["_law_shares", "_law_number", "_law_delay"] ["_law_shares", "_law_number", "_law_delay"] (defScope s_l_dealt) := ⟨rfl, rfl, rfl, by decide +kernel, rfl, by decide +kernel, by decide +kernel⟩
theorem ok_ldealt (T : D K mg) (TB : Tabs base T) (B : ExcF K mg "NoShare" C) : FnOk P w K mg base CX0 8 T.f_l_dealt T.d_l_dealt ["_law_shares", "_law_number", "_law_delay"] (spLDealt (tabs T)) := by
  refine T.U_l_dealt.ok sc_ldealt (fun vs H Q E h => ?_) (fun cdv A outer s H vs Q E hr h => ?_)
  · obtain ⟨sv, n, D, ps, rfl, _⟩ := h
    rfl
  · obtain ⟨sv, n, D, ps, rfl, hS, hg, n1, n6, d0, d1, hT, k⟩ := h
    have mz : 5000 ≤ sizeLine := by decide
    refine ⟨_, pss_one (ps_try_only rfl rfl ⟨rfl, by decide, .inl B.g⟩ takes0 (fun W pn xe tk _ => pss_one (ps_ret (pe_callNS (ok_dealt T TB B) hr rfl T.g_dealt T.U_dealt.kp (kn_dealt T) (fun σ => passAt tk σ) (pa_cons (pv 0) (pa_cons (pv 1) pa_nil)) (pk_cons (pv 2) pk_nil))))
      (fun a oe cls d pn _ _ => pss_one (ps_ret (pe_tup (pa_cons pe_str pa_nil))))), ?_⟩
    refine ⟨_, rfl, _, rfl, _, rfl, rfl, rfl, sv, n, D, ps, rfl, hS, hg, n1, n6, d0, d1, hT, fun hb z H1 u1 oz => ?_, fun hb H1 u1 => ?_⟩
    · refine k z H1 u1 ?_
      unfold dueD
      rw [if_neg (by rw [hb]; exact Bool.false_ne_true)]
      exact oz
    · refine ⟨true, B.e, fun _ a na => ?_, fun q => nomatch q⟩
      refine ⟨by show 1 ≤ sizeLine; omega, fun z hz => ?_⟩
      refine k _ _ (u1.trans (.same u1.1 (same_upd hz))) ?_
      unfold dueD
      rw [if_pos hb]
      exact .tup upd_same (.cons (.str _) .nil)
theorem sc_below : FnScope ["_law_pairs", "_law_wide", "_law_time"] ["_law_pairs", "_law_wide"] (defScope s_l_below) := ⟨rfl, rfl, rfl, by decide +kernel, rfl, by decide +kernel, by decide +kernel⟩
theorem ok_below (T : D K mg) : FnOk P w K mg base CX0 3 T.f_l_below T.d_l_below ["_law_pairs", "_law_wide"] spBelow := by
  refine T.U_l_below.ok sc_below (fun vs H Q E h => ?_) (fun cdv A outer s H vs Q E hr h => ?_)
  · obtain ⟨lv, n, ps, rfl, _⟩ := h
    rfl
  · obtain ⟨lv, n, ps, rfl, hL, hg, n0, n1, k⟩ := h
    have nd := sc_below.nd
    have mz : 5000 ≤ sizeLine := by decide
    refine ⟨_, pss_cons (ps_if (pt_cmpR (op_eqD hr.units) (pv 0) (pe_tup pa_nil) (nomark _))
        (pss_one (ps_ret pe_int))
        (pss_nil))
      (pss_one (ps_ret (pe_callB call_len_seq (by rfl) T.len PySem.boot_len (pa_cons (pe_lc (own := [("_law_time", 2)]) (g := gName 2) rfl nd (pi_list (pe_call (ok_soon T) hr rfl T.g_l_soonest T.U_l_soonest.kp T.b_l_soonest .nil pass0 (pa_cons (pv 0) (pa_cons (pe_tup (pa_cons pe_int pa_nil)) (pa_cons (pe_tup pa_nil) (pa_cons (pe_op op_add (pe_op op_mul pe_int (pv 1)) pe_int) (pa_cons pe_int pa_nil))))))) (blkOk_by (N := ["_law_pairs", "_law_wide", "_law_time"]) (sc := defScope s_l_below) (by decide +kernel)) (fun _ _ _ _ _ => pg_name (i := 2) nd rfl (.inl rfl)) (fun _ _ _ _ _ => (pts_one (pt_cmpR op_lt (pv 2) (pv 1) (nomark _)))) (fun _ _ _ _ _ => pv 2)) pa_nil)))), ?_⟩
    refine ⟨_, rfl, by show 0 ≤ sizeLine; omega, fun e he => ?_⟩
    have s1 := same_upd (o := HO.tup []) he
    have ee : upd H e (.tup []) e = some (.tup []) := upd_same
    replace hL := hL.same s1
    generalize upd H e (.tup []) = H1 at *
    refine ⟨_, .tuple [], hL.dp (tup_lim ps), .tup (SqT.of ee) .nil, (shp_lim ps).ok, rfl, _, rfl, ?_⟩
    rw [eqv_nilT, lim_emp]
    by_cases z : ps = []
    · rw [show ps.isEmpty = true from by rw [z]; rfl]
      refine iteT ?_
      have q := k H1 s1
      unfold belowI at q
      rw [if_pos z] at q
      exact q
    · rw [show ps.isEmpty = false from by cases h : ps with | nil => exact absurd h z | cons a l => rfl]
      refine iteF (next_of ?_)
      dsimp only
      obtain ⟨hm, hml⟩ := mw_spec z hg n0
      refine ⟨_, rfl, by show 1 ≤ sizeLine; omega, fun c1 hc1 => ?_⟩
      have sa := same_upd (o := HO.tup [V.int 1]) hc1
      refine ⟨by show 0 ≤ sizeLine; omega, fun c2 hc2 => ⟨_, rfl, 6, n, rfl, rfl, .inl ⟨by decide, by decide⟩, _, _, rfl, rfl, ?_⟩⟩
      have sb := same_upd (o := HO.tup []) hc2
      refine ⟨lv, .ref c1, c2, 6 * n + 1, 0, ps, [1], [], rfl, hL.same (sa.trans sb), fun p hp => ⟨(hg.2 p hp).1, (hg.2 p hp).2.2.1, by have := (hg.2 p hp).2.2.2; omega⟩, .tup (sb _ _ upd_same) (.cons (.int 1) .nil), by decide, ⟨0, Nat.zero_lt_one, rfl⟩, .inr (SqT.of upd_same), Nat.zero_le _, by omega, by omega, fun z1 ts H2 s2 _ ez lt sr => ?_⟩
      have hmt : mw ps n ≤ ts.length := by omega
      have s02 := s1.trans (sa.trans (sb.trans s2))
      refine ⟨z1, rfl, ⟨_, SqL.of ez⟩, fun D hD => lc_list (K := K) (a := z1) (xs := ts.map V.int) (fun j Hx => Same H2 Hx ∧ Hx D = some (.lst (((ts.take j).filter (fun x => decide (x < n))).map V.int))) ⟨same_upd hD, upd_same⟩ (fun j Hx _ q => SqL.of (q.1 _ _ ez)) ?_ ?_⟩
      · rintro j x Hx hx ⟨sx, ex⟩
        rw [List.getElem?_map] at hx
        obtain ⟨t, hn', rfl⟩ := Option.map_eq_some_iff.mp hx
        refine ⟨rfl, ?_⟩
        have et : ts.take (j + 1) = ts.take j ++ [t] := by rw [List.take_add_one, hn']; rfl
        refine ⟨_, rfl, _, rfl, _, _, rfl, rfl, _, rfl, ite2 (fun h => ?_) (fun h => ?_)⟩
        · refine ⟨_, rfl, _, ex, ?_, same_into hD sx, ?_⟩
          · rw [List.length_map]
            have := List.length_filter_le (fun x => decide (x < n)) (ts.take j)
            rw [List.length_take] at this
            omega
          · rw [upd_same, et, List.filter_append, List.map_append, List.filter_cons_of_pos (by exact h)]
            rfl
        · refine ⟨sx, ?_⟩
          rw [ex, et, List.filter_append, List.filter_cons_of_neg (by exact h), List.filter_nil, List.append_nil]
      · rintro Hx ⟨sx, ex⟩
        rw [List.length_map, List.take_of_length_le (Nat.le_refl _)] at ex
        have bc := below_count sr hm hmt
        refine ⟨D, _, rfl, .inl (SqL.of ex), ?_⟩
        rw [List.length_map, bc]
        have q := k Hx (s02.trans sx)
        unfold belowI at q
        rw [if_neg z] at q
        exact q
theorem sc_close : FnScope ["_law_each", "_law_delay", "_law_wide", "_law_found", "_law_pairs", "_law_asked", "_law_time"] ["_law_each", "_law_delay", "_law_wide"] (defScope s_l_close) := ⟨rfl, rfl, rfl, by decide +kernel, rfl, by decide +kernel, by decide +kernel⟩
theorem ok_close (T : D K mg) : FnOk P w K mg base CX0 4 T.f_l_close T.d_l_close ["_law_each", "_law_delay", "_law_wide"] spClose := by
  refine T.U_l_close.ok sc_close (fun vs H Q E h => ?_) (fun cdv A outer s H vs Q E hr h => ?_)
  · obtain ⟨ev, D, w, Ls, rfl, _⟩ := h
    rfl
  · obtain ⟨ev, D, w, Ls, rfl, hE, l6, hg, d0, d1, w1, w12, k⟩ := h
    have nd := sc_close.nd
    have mz : 5000 ≤ sizeLine := by decide
    refine ⟨_, pss_cons (ps_set (i := 3) nd rfl (.inl rfl) (pe_lst pa_nil))
      (pss_cons (ps_for PassesOwn.never rfl (pi_tup (pv 0)) (pg_name (i := 4) nd rfl (.inl rfl))
        (pss_cons (ps_set (i := 5) nd rfl (.inl rfl) (pe_call (ok_soon T) (hr.mono (by decide)) rfl T.g_l_soonest T.U_l_soonest.kp T.b_l_soonest .nil pass0 (pa_cons (pv 4) (pa_cons (pe_tup (pa_cons pe_int pa_nil)) (pa_cons (pe_tup pa_nil) (pa_cons (pe_call (ok_below T) hr rfl T.g_l_below T.U_l_below.kp T.b_l_below .nil pass0 (pa_cons (pv 4) (pa_cons (pe_op op_add (pv 2) (pv 1)) pa_nil))) (pa_cons pe_int pa_nil)))))))
        (pss_one (ps_expr (pe_bm PySem.F.plainAttrs_list PySem.F.slot_list_extend PySem.F.type_list_extend mt_extend (pv 3) (pa_cons (pe_lc (own := [("_law_time", 6)]) (g := gName 6) (tt := tYes) rfl nd (pi_list (pv 5)) (blkOk_by (N := ["_law_each", "_law_delay", "_law_wide", "_law_found", "_law_pairs", "_law_asked", "_law_time"]) (sc := defScope s_l_close) (by decide +kernel)) (fun _ _ _ _ _ => pg_name (i := 6) nd rfl (.inl rfl)) (fun _ _ _ _ _ => pts_nil) (fun _ _ _ _ _ => pe_callB (call_max2 rfl) (by rfl) T.max boot_max (pa_cons (pv 6) (pa_cons (pv 1) pa_nil)))) pa_nil))))))
      (pss_one (ps_ret (pe_callTy call_tuple_of (by rfl) T.tuple (by decide +kernel) (pa_cons (pe_callB cr_sortedI (by rfl) T.sorted (by decide +kernel) (pa_cons (pv 3) pa_nil)) pa_nil))))), ?_⟩
    obtain ⟨ea, es, rfl, ee, oe⟩ := od_tup hE
    have les : es.length = Ls.length := by rw [oe.len, List.length_map]
    refine ⟨by show 0 ≤ sizeLine; omega, fun Dn hDn => gn ?_⟩
    have s0 := same_upd (o := HO.lst []) hDn
    refine ⟨_, rfl, ea, rfl, ⟨_, SqT.of (s0 _ _ ee)⟩, for_tup (K := K) (a := ea) (xs := es) (fun j σ H5 => (∀ b o, H b = some o → H5 b = some o) ∧ ∃ (tss : List (List Int)) (v4 v5 v6 : Option V), H5 Dn = some (.lst ((tss.flatMap fun ts => ts.map (max · D)).map V.int)) ∧ tss.length = j ∧ (tss.flatMap fun ts => ts.map (max · D)).length ≤ 72 * j ∧ (∀ (i : Nat) (h : i < tss.length) (h2 : i < Ls.length), SRow Ls[i] [1] [] 0 tss[i]) ∧ σ = [some (.ref ea), some (.int D), some (.int w), some (.ref Dn), v4, v5, v6]) ⟨s0, [], _, _, _, upd_same, rfl, Nat.zero_le _, fun i h => absurd h (Nat.not_lt_zero i), rfl⟩ (fun j σ H5 _ q => SqT.of (q.1 _ _ ee)) ?_ ?_⟩
    · rintro j x σ H5 hx ⟨hold, tss, v4, v5, v6, eD, lt, lf, hr', rfl⟩
      obtain ⟨d, hdm, od⟩ := od_at oe hx
      rw [List.getElem?_map] at hdm
      obtain ⟨l, hlm, rfl⟩ := Option.map_eq_some_iff.mp hdm
      obtain ⟨hj, hje⟩ := List.getElem?_eq_some_iff.mp hlm
      obtain ⟨hl, hl0⟩ := hg l (List.mem_of_getElem? hlm)
      have od5 := od.same hold
      refine gn ?_
      refine ⟨_, rfl, by show 1 ≤ sizeLine; omega, fun c1 hc1 => ?_⟩
      have sa := same_upd (o := HO.tup [V.int 1]) hc1
      refine ⟨by show 0 ≤ sizeLine; omega, fun c2 hc2 => ?_⟩
      have sb := same_upd (o := HO.tup []) hc2
      have sab := sa.trans sb
      have e1 := sb _ _ (show upd H5 c1 (.tup [V.int 1]) c1 = some (.tup [V.int 1]) from upd_same)
      have e2 : upd (upd H5 c1 (.tup [V.int 1])) c2 (.tup []) c2 = some (.tup []) := upd_same
      generalize upd (upd H5 c1 (.tup [V.int 1])) c2 (.tup []) = H6 at *
      refine ⟨_, rfl, _, rfl, _, rfl, _, _, rfl, rfl, x, w + D, l, rfl, od5.same sab, hl, by omega, by omega, fun H7 s7 => ?_⟩
      obtain ⟨hm, hml⟩ := mw_spec hl0 hl (n := w + D) (by omega)
      have eb : belowI l (w + D) = ((mw l (w + D) : Nat) : Int) := if_neg hl0
      rw [eb]
      refine ⟨x, .ref c1, c2, ((mw l (w + D) : Nat) : Int), 0, l, [1], [], rfl, od5.same (sab.trans s7), fun p hp => ⟨(hl.2 p hp).1, (hl.2 p hp).2.2.1, by have := (hl.2 p hp).2.2.2; omega⟩, .tup (s7 _ _ e1) (.cons (.int 1) .nil), by decide, ⟨0, Nat.zero_lt_one, rfl⟩, .inr (SqT.of (s7 _ _ e2)), Nat.zero_le _, by omega, by omega, fun z1 ts H8 s8 _ ez ltt sr => gn ?_⟩
      rw [Int.toNat_natCast] at ltt
      have s58 := sab.trans (s7.trans s8)
      dsimp only
      refine ⟨_, rfl, .inl ⟨rfl, _, SqL.of (s58 _ _ eD)⟩, _, rfl, z1, rfl, ⟨_, SqL.of ez⟩, fun Dm hDm => lc_list (K := K) (a := z1) (xs := ts.map V.int) (fun i Hx => Same H8 Hx ∧ Hx Dm = some (.lst (((ts.take i).map (max · D)).map V.int))) ⟨same_upd hDm, upd_same⟩ (fun i Hx _ q => SqL.of (q.1 _ _ ez)) ?_ ?_⟩
      · rintro i x' Hx hx' ⟨sx, ex⟩
        rw [List.getElem?_map] at hx'
        obtain ⟨t, hn', rfl⟩ := Option.map_eq_some_iff.mp hx'
        refine ⟨rfl, ?_⟩
        unfold tYes
        dsimp only
        rw [if_pos rfl]
        refine ⟨_, rfl, _, rfl, _, _, rfl, _, ex, by rw [List.length_map, List.length_map, List.length_take]; omega, same_into hDm sx, ?_⟩
        have em : (if D > t then D else t) = max t D := by
          by_cases z : D > t
          · rw [if_pos z, Int.max_eq_right (by omega)]
          · rw [if_neg z, Int.max_eq_left (by omega)]
        rw [upd_same, List.take_add_one, hn', List.map_append, List.map_append, em]
        rfl
      · rintro Hx ⟨sx, ex⟩
        rw [List.length_map, List.take_of_length_le (Nat.le_refl _)] at ex
        have eDx := sx _ _ (s58 _ _ eD)
        have lfl : (tss.flatMap fun ts => ts.map (max · D)).length ≤ 2000 := by omega
        refine ⟨Dn, Dm, _, _, rfl, rfl, eDx, ex, by rw [List.length_map, List.length_map, List.length_map]; omega, ?_⟩
        refine ⟨fun b o e => (upd_ne (ne_of_none e hDn)).trans (sx _ _ (s58 _ _ (hold b o e))), tss ++ [ts], _, _, _, ?_, by rw [List.length_append, lt]; rfl, ?_, fun i h h2 => ?_, rfl⟩
        · rw [upd_same, List.flatMap_append, List.map_append]
          simp
        · rw [List.flatMap_append, List.length_append]
          simp only [List.flatMap_cons, List.flatMap_nil, List.append_nil, List.length_map]
          omega
        · rw [List.length_append] at h
          have h : i < tss.length + 1 := h
          by_cases z : i < tss.length
          · have := hr' i z h2
            rw [List.getElem_append_left z]
            exact this
          · have e : i = j := by omega
            subst e
            rw [List.getElem_append_right (by omega)]
            simp only [show i - tss.length = 0 by omega, List.getElem_cons_zero]
            rw [hje]
            exact sr
    · rintro σ H5 ⟨hold, tss, v4, v5, v6, eD, lt, lf, hr', rfl⟩
      rw [les] at lt
      refine ⟨_, rfl, Dn, _, rfl, SqL.of eD, fun ms p1 hperm hpw hp1 => ?_⟩
      have s1 := same_upd (o := HO.lst (ms.map V.int)) hp1
      refine ⟨p1, _, rfl, .inl ⟨SqL.of upd_same, fun R hR => ?_⟩⟩
      have s2 := same_upd (o := HO.tup (ms.map V.int)) hR
      exact k _ _ tss ms (fun b o e => s2 _ _ (s1 _ _ (hold b o e))) ⟨R, rfl, upd_same⟩ lt hr' hpw hperm (by rw [hperm.length_eq]; omega)
end
end KP

set_option Elab.async false
set_option maxRecDepth 100000
set_option maxHeartbeats 4000000
set_option linter.all false
/-! Ours: what the law says is due. -/
namespace KP
open PySem PySem.Spec PyProof.Rows L2 Gr GxR
def badQ (q : Int × Int) : Bool := decide (q.1 < 1) || decide (12 < q.2)
theorem due_bad {ps : List (Int × Int)} (hg : Lm ps) {n D : Int} (n1 : 1 ≤ n) : (dealP ps n D).any (fun r => r.any badQ) = ps.any (tooB n D) := by
  rw [Bool.eq_iff_iff, List.any_eq_true, List.any_eq_true]
  constructor
  · rintro ⟨r, hr, hb⟩
    obtain ⟨i, hi, rfl⟩ := List.mem_map.mp hr
    rw [List.any_eq_true] at hb
    obtain ⟨q, hq, hb⟩ := hb
    obtain ⟨p, hp, rfl⟩ := List.mem_map.mp hq
    refine ⟨p, hp, ?_⟩
    unfold badQ at hb
    unfold tooB
    rw [Bool.or_eq_true] at hb ⊢
    rcases hb with hb | hb
    · refine .inl (decide_eq_true ?_)
      have hb := of_decide_eq_true hb
      have hp1 := (hg.2 p hp).1
      by_cases z : p.1 < n
      · exact z
      · exfalso
        have : 1 ≤ p.1 / n := (Int.le_ediv_iff_mul_le (by omega)).mpr (by omega)
        have hb : p.1 / n + (if ((i : Nat) : Int) < p.1 % n then 1 else 0) < 1 := hb
        split at hb <;> omega
    · exact .inr hb
  · rintro ⟨p, hp, hb⟩
    unfold tooB at hb
    rw [Bool.or_eq_true] at hb
    have hp1 := (hg.2 p hp).1
    rcases hb with hb | hb
    · have hb := of_decide_eq_true hb
      refine ⟨shareP ps n D ((n.toNat - 1 : Nat) : Nat), List.mem_map.mpr ⟨n.toNat - 1, List.mem_range.mpr (by omega), rfl⟩, List.any_eq_true.mpr ⟨(partK n p (n.toNat - 1), p.2 + D), share_mem hp n D _, ?_⟩⟩
      unfold badQ partK
      have e1 : p.1 / n = 0 := Int.ediv_eq_zero_of_lt (by omega) hb
      have e2 : p.1 % n = p.1 := Int.emod_eq_of_lt (by omega) hb
      show (decide (p.1 / n + (if ((n.toNat - 1 : Nat) : Int) < p.1 % n then 1 else 0) < 1) || _) = true
      rw [e1, e2, if_neg (by omega)]
      rfl
    · refine ⟨shareP ps n D ((0 : Nat) : Nat), List.mem_map.mpr ⟨0, List.mem_range.mpr (by omega), rfl⟩, List.any_eq_true.mpr ⟨(partK n p 0, p.2 + D), share_mem hp n D _, ?_⟩⟩
      unfold badQ
      rw [Bool.or_eq_true]
      exact .inr hb
theorem dp_of_pairs {K : PySem.W.Frag} {H : Hp} : ∀ {vs : List V}, (∀ v ∈ vs, ∃ (b : Addr) (q : Int × Int), v = .ref b ∧ H b = some (.tup [.int q.1, .int q.2])) → ∃ qs : List (Int × Int), qs.length = vs.length ∧ DpAll K H vs ((qs.map inD).map tw)
  | [], _ => ⟨[], rfl, .nil⟩
  | v :: vs, h => by
    obtain ⟨qs, l, d⟩ := dp_of_pairs (K := K) (vs := vs) fun x hx => h x (List.mem_cons_of_mem _ hx)
    obtain ⟨b, q, rfl, e⟩ := h v List.mem_cons_self
    exact ⟨q :: qs, by rw [List.length_cons, List.length_cons, l], .cons (.tup (SqT.of e) (.cons (.int _) (.cons (.int _) .nil))) d⟩
theorem shp_limL (qs : List (Int × Int)) : Shp 5 (.list ((qs.map inD).map tw)) := shp_lst (k := 3) fun d hd => by
  obtain ⟨q, hq, rfl⟩ := List.mem_map.mp hd
  obtain ⟨p, _, rfl⟩ := List.mem_map.mp hq
  exact shp_tup (k := 1) fun d hd => by
    simp only [inD, List.mem_cons, List.not_mem_nil, or_false] at hd
    rcases hd with rfl | rfl <;> exact shp_int _
theorem op_neDB {X : Cx} {s : Shared} {H : Hp} {sc : Scope} {en : Env} {fp : List Addr} (hu : X.A.units + 64 < cLine) : OpR (X.blk s H sc en fp) (compareOp .NotEq) (rNeD X.K) := op_neD (X := X.blk s H sc en fp) hu
theorem pi_tupB {X : Cx} {s : Shared} {H : Hp} {sc : Scope} {en : Env} {fp : List Addr} {tg l : Expr} {tl : TE} (hl : PE (X.blk s H sc en fp) l tl) : PI (X.blk s H sc en fp) tg l (iTup X.K tl) := pi_tup hl
theorem ix_tupBB {X : Cx} {s s' : Shared} {H H' : Hp} {sc sc' : Scope} {en en' : Env} {fp fp' : List Addr} : IxR ((X.blk s H sc en fp).blk s' H' sc' en' fp') (rIxT X.K) := ix_tup
def spDue : Sp := fun vs H Q _ => ∃ (sv : V) (n D : Int) (ps : List (Int × Int)), vs = [sv, .int n, .int D] ∧ Od H sv (limP ps) ∧ Lm ps ∧ 1 ≤ n ∧ n ≤ 6 ∧ 0 ≤ D ∧ D ≤ 24 ∧ ∀ z H', Same H H' → Od H' z (dueD ps n D) → Q z H'
section
variable {P : Program} {w : World} {K : PySem.W.Frag} {mg : Str → Option Value} {base : Heap} {C : Addr}
theorem sc_due : FnScope ["_law_shares", "_law_number", "_law_delay", "_law_found", "_law_turn", "_law_row", "_law_pair", "_law_bad"] ["_law_shares", "_law_number", "_law_delay"] (defScope s_l_due) := ⟨rfl, rfl, rfl, by decide +kernel, rfl, by decide +kernel, by decide +kernel⟩
theorem ok_due (T : D K mg) : FnOk P w K mg base CX0 2 T.f_l_due T.d_l_due ["_law_shares", "_law_number", "_law_delay"] spDue := by
  refine T.U_l_due.ok sc_due (fun vs H Q E h => ?_) (fun cdv A outer s H vs Q E hr h => ?_)
  · obtain ⟨sv, n, D, ps, rfl, _⟩ := h
    rfl
  · obtain ⟨sv, n, D, ps, rfl, hS, hg, n1, n6, d0, d1, k⟩ := h
    have nd := sc_due.nd
    have mz : 5000 ≤ sizeLine := by decide
    refine ⟨_, pss_cons (ps_set (i := 3) nd rfl (.inl rfl) (pe_lst pa_nil))
      (pss_cons (ps_for PassesOwn.never rfl (pi_range1 rfl T.range (pa_cons (pv 1) pa_nil)) (pg_name (i := 4) nd rfl (.inl rfl))
        (pss_cons (ps_set (i := 5) nd rfl (.inl rfl) (pe_lst pa_nil))
        (pss_cons (ps_for PassesOwn.never rfl (pi_tup (pv 0)) (pg_name (i := 6) nd rfl (.inl rfl))
          (pss_one (ps_expr (pe_bm PySem.F.plainAttrs_list PySem.F.slot_list_append PySem.F.type_list_append mt_append (pv 5) (pa_cons (pe_tup (pa_cons (pe_op op_add (pe_op op_fdivN (pe_ix ix_tup (pv 6) pe_int (fun _ _ => rfl)) (pv 1)) (pe_callTy call_int1 (by rfl) T.int PyProof.Rows.boot_int (pa_cons (pe_cmpR op_lt (pv 4) (pe_op op_modN (pe_callTy call_int1 (by rfl) T.int PyProof.Rows.boot_int (pa_cons (pe_ix ix_tup (pv 6) pe_int (fun _ _ => rfl)) pa_nil)) (pv 1)) (nomark _)) pa_nil))) (pa_cons (pe_op op_add (pe_ix ix_tup (pv 6) pe_int (fun _ _ => rfl)) (pv 2)) pa_nil))) pa_nil)))))
        (pss_one (ps_expr (pe_bm PySem.F.plainAttrs_list PySem.F.slot_list_append PySem.F.type_list_append mt_append (pv 3) (pa_cons (pe_callTy call_tuple_of (by rfl) T.tuple (by decide +kernel) (pa_cons (pv 5) pa_nil)) pa_nil)))))))
      (pss_cons (ps_setLc (i := 7) (own := [("_law_row", 5)]) (g := gName 5) rfl nd rfl rfl (sw_true rfl rfl rfl (by decide +kernel)) (pi_list (pv 3)) (blkOk_by (N := ["_law_shares", "_law_number", "_law_delay", "_law_found", "_law_turn", "_law_row", "_law_pair", "_law_bad"]) (sc := defScope s_l_due) (by decide +kernel)) (fun _ _ _ _ _ => pg_name (i := 5) nd rfl (.inl rfl)) (fun s1 H1 C1 cl1 fp1 => (pts_one (pt_cmpR  (op_neDB hr.units) (pe_lc  (own := [("_law_pair", 6)]) (g := gName 6) rfl nd (pi_tupB (pv 5)) (blkOk_by (N := ["_law_shares", "_law_number", "_law_delay", "_law_found", "_law_turn", "_law_row", "_law_pair", "_law_bad"]) (sc := { kind := .function, names := [(PySem.Str.ofString ".0", .local), (PySem.Str.ofString "_law_row", .local)], isGenerator := false, isCoroutine := false }) (by decide +kernel)) (fun _ _ _ _ _ => pg_name (i := 6) nd rfl (.inl rfl)) (fun _ _ _ _ _ => (pts_one (PW.pt (pw_or (pt_cmpR op_lt (pe_ix ix_tupBB (pv 6) pe_int (fun _ _ => rfl)) pe_int (nomark _)) (pw_or1 (pt_cmpR op_gt (pe_ix ix_tupBB (pv 6) pe_int (fun _ _ => rfl)) pe_int (nomark _))))))) (fun _ _ _ _ _ => pv 6)) (pe_lst pa_nil) (nomark _)))) (fun _ _ _ _ _ => pv 5))
      (pss_one (ps_ret (pe_ifExp (pt_cmpR (op_eqD hr.units) (pv 7) (pe_lst pa_nil) (nomark _)) (pe_callTy call_tuple_of (by rfl) T.tuple (by decide +kernel) (pa_cons (pv 3) pa_nil)) (pe_tup (pa_cons pe_str pa_nil))))))), ?_⟩
    obtain ⟨la, ls, rfl, el, ol⟩ := od_tup hS
    have lls : ls.length = ps.length := by rw [ol.len, List.length_map, List.length_map]
    refine ⟨by show 0 ≤ sizeLine; omega, fun D1 h1 => gn ?_⟩
    have s0 := same_upd (o := HO.lst []) h1
    refine ⟨_, rfl, n, rfl, by omega, by omega, for_range (lo := 0) (n := _) (fun i σ Hx => (∀ b o, H b = some o → Hx b = some o) ∧ (∃ us, Hx D1 = some (.lst us) ∧ us.length = i) ∧ LstT Hx D1 ((List.range i).map fun j => limP (shareP ps n D (j : Nat))) ∧ ∃ (v4 v5 v6 : Option V), σ = [some (.ref la), some (.int n), some (.int D), some (.ref D1), v4, v5, v6, none]) ⟨s0, ⟨[], upd_same, rfl⟩, LstT.at upd_same, _, _, _, rfl⟩ ?_ ?_⟩
    · rintro i σ Hx hi ⟨hold, ⟨us, eu, lu⟩, lt, v4, v5, v6, rfl⟩
      have hi6 : i < 6 := by omega
      refine gn ?_
      rw [Int.zero_add]
      dsimp only
      refine ⟨by show 0 ≤ sizeLine; omega, fun D2 h2 => gn ?_⟩
      have n12 : D1 ≠ D2 := ne_of_none eu h2
      have s2 := same_upd (o := HO.lst []) h2
      refine ⟨_, rfl, la, rfl, ⟨_, SqT.of (s2 _ _ (hold _ _ el))⟩, for_tup (K := K) (a := la) (xs := ls) (fun j σ H5 => (∀ b o, Hx b = some o → H5 b = some o) ∧ (∃ us, H5 D2 = some (.lst us) ∧ us.length = j) ∧ LstT H5 D2 (((shareP (ps.take j) n D (i : Nat)).map inD).map tw) ∧ ∃ (v6 : Option V), σ = [some (.ref la), some (.int n), some (.int D), some (.ref D1), some (.int (i : Nat)), some (.ref D2), v6, none]) ⟨s2, ⟨[], upd_same, rfl⟩, LstT.at upd_same, _, rfl⟩ (fun j σ H5 _ q => SqT.of (q.1 _ _ (hold _ _ el))) ?_ ?_⟩
      · rintro j x σ H5 hx ⟨hold5, ⟨ws, ew, lw⟩, lt5, v6, rfl⟩
        obtain ⟨q, b, hqm, rfl, eb⟩ := pair_at ol hx
        have hj := (List.getElem?_eq_some_iff.mp hqm).1
        have hq := hg.2 q (List.mem_of_getElem? hqm)
        have eb5 := hold5 _ _ (hold _ _ eb)
        refine gn ?_
        refine ⟨_, rfl, .inl ⟨rfl, _, SqL.of ew⟩, _, rfl, b, _, 0, _, rfl, rfl, SqT.of eb5, rfl, _, rfl, q.1, n, rfl, rfl, ⟨by omega, by omega⟩, _, rfl, _, rfl, b, _, 0, _, rfl, rfl, SqT.of eb5, rfl, .inl ⟨q.1, rfl, _, rfl, q.1, n, rfl, rfl, by omega, _, _, rfl, rfl, .inr ⟨_, rfl, _, _, rfl, rfl, _, rfl, b, _, 1, _, rfl, rfl, SqT.of eb5, rfl, _, rfl, _, _, rfl, rfl, by show 2 ≤ sizeLine; omega, fun t ht => ?_⟩⟩⟩
        have ev : (q.1.fdiv n + (if decide (((i : Nat) : Int) < q.1.fmod n) = true then 1 else 0)) = q.1 / n + (if ((i : Nat) : Int) < q.1 % n then 1 else 0) := by
          rw [Int.fdiv_eq_ediv_of_nonneg _ (by omega), Int.fmod_eq_emod_of_nonneg _ (by omega)]
          simp only [decide_eq_true_eq]
        dsimp only
        rw [ev]
        have st := same_upd (o := HO.tup [V.int (q.1 / n + (if ((i : Nat) : Int) < q.1 % n then 1 else 0)), V.int (q.2 + D)]) ht
        have et : upd H5 t (.tup [V.int (q.1 / n + (if ((i : Nat) : Int) < q.1 % n then 1 else 0)), V.int (q.2 + D)]) t = some (.tup [V.int (q.1 / n + (if ((i : Nat) : Int) < q.1 % n then 1 else 0)), V.int (q.2 + D)]) := upd_same
        replace lt5 := lt5.same st
        replace ew := st _ _ ew
        replace hold5 := fun b o e => st _ _ (hold5 b o e)
        generalize upd H5 t (.tup [V.int (q.1 / n + (if ((i : Nat) : Int) < q.1 % n then 1 else 0)), V.int (q.2 + D)]) = H6 at *
        refine ⟨D2, _, _, rfl, rfl, ew, by have := hg.1; omega, ?_⟩
        refine ⟨fun b' o e => (upd_ne (ne_of_none e h2)).trans (hold5 b' o e), ⟨_, upd_same, by rw [List.length_append, lw]; rfl⟩, ?_, _, rfl⟩
        have e2 : ((shareP (ps.take (j + 1)) n D (i : Nat)).map inD).map tw = ((shareP (ps.take j) n D (i : Nat)).map inD).map tw ++ [tw (inD (q.1 / n + (if ((i : Nat) : Int) < q.1 % n then 1 else 0), q.2 + D))] := by
          unfold shareP
          rw [List.take_add_one, hqm, List.map_append, List.map_append, List.map_append]
          rfl
        rw [e2]
        exact lt5.put ew (.tup et (.cons (.int _) (.cons (.int _) .nil))) (tup_pair _)
      · rintro σ H5 ⟨hold5, ⟨ws, ew, lw⟩, lt5, v6, rfl⟩
        rw [lls, List.take_length] at lt5
        refine ⟨_, rfl, .inl ⟨rfl, _, SqL.of (hold5 _ _ eu)⟩, _, rfl, D2, _, rfl, .inl ⟨SqL.of ew, fun R hR => ?_⟩⟩
        have sR := same_upd (o := HO.tup ws) hR
        have oR := lt5.tup ew hR
        have lt6 := (lt.same hold5).same sR
        have eu6 := sR _ _ (hold5 _ _ eu)
        refine ⟨D1, _, _, rfl, rfl, eu6, by omega, ?_⟩
        refine ⟨fun b o e => (upd_ne (ne_of_none e h1)).trans (sR _ _ (hold5 _ _ (hold b o e))), ⟨_, upd_same, by rw [List.length_append, lu]; rfl⟩, ?_, _, _, _, rfl⟩
        rw [List.range_succ, List.map_append]
        exact lt6.put eu6 oR (tup_lim _)
    · rintro σ H5 ⟨hold, ⟨us', eu', lu'⟩, ⟨us, eu, ou, tu⟩, v4, v5, v6, rfl⟩
      have lus : us.length = n.toNat := by rw [ou.len, List.length_map, List.length_range]
      have erow : ((List.range n.toNat).map fun j => limP (shareP ps n D (j : Nat))) = (dealP ps n D).map limP := by
        unfold dealP
        rw [List.map_map]
        rfl
      clear lu' eu' us'
      refine ⟨_, rfl, D1, rfl, ⟨_, SqL.of eu⟩, fun D3 h3 => lc_list (K := K) (a := D1) (xs := us) (fun j Hx => Same H5 Hx ∧ (∃ bs, Hx D3 = some (.lst bs) ∧ bs.length ≤ j) ∧ LstT Hx D3 ((((dealP ps n D).take j).filter fun r => r.any badQ).map limP)) ⟨same_upd h3, ⟨[], upd_same, Nat.le_refl _⟩, LstT.at upd_same⟩ (fun j Hx _ q => SqL.of (q.1 _ _ eu)) ?_ ?_⟩
      · rintro j x Hx hx ⟨sx, ⟨bs, eb, lb⟩, l3⟩
        have hj : j < us.length := (List.getElem?_eq_some_iff.mp hx).1
        obtain ⟨d, hdm, od⟩ := od_at ou hx
        have hdm : ((dealP ps n D).map limP)[j]? = some d := by rw [← erow]; exact hdm
        rw [List.getElem?_map] at hdm
        obtain ⟨r, hrm, rfl⟩ := Option.map_eq_some_iff.mp hdm
        obtain ⟨ra, rxs, rfl, era, ora⟩ := od_tup od
        have lrx : rxs.length = r.length := by rw [ora.len, List.length_map, List.length_map]
        have lr4 : r.length ≤ 4 := by
          obtain ⟨i, _, rfl⟩ := List.mem_map.mp (List.mem_of_getElem? hrm)
          unfold shareP
          rw [List.length_map]
          exact hg.1
        refine ⟨rfl, ?_⟩
        refine ⟨_, rfl, ra, rfl, ⟨_, SqT.of (sx _ _ era)⟩, fun D4 h4 => lc_tup (K := K) (a := ra) (xs := rxs) (fun m Hy => Same Hx Hy ∧ ∃ vs, Hy D4 = some (.lst vs) ∧ vs.length = ((r.take m).filter badQ).length ∧ ∀ v ∈ vs, ∃ (b : Addr) (q : Int × Int), v = .ref b ∧ Hy b = some (.tup [.int q.1, .int q.2])) ⟨same_upd h4, [], upd_same, rfl, fun _ h => nomatch h⟩ (fun m Hy _ q => SqT.of (q.1 _ _ (sx _ _ era))) ?_ ?_⟩
        · rintro m x Hy hx' ⟨sy, vs, ev, lv, hv⟩
          obtain ⟨q, b, hqm, rfl, eb'⟩ := pair_at ora hx'
          have hm := (List.getElem?_eq_some_iff.mp hqm).1
          have eby := sy _ _ (sx _ _ eb')
          have et : r.take (m + 1) = r.take m ++ [q] := by rw [List.take_add_one, hqm]; rfl
          have lvm : vs.length ≤ 4 := by
            rw [lv]
            have := List.length_filter_le badQ (r.take m)
            rw [List.length_take] at this
            omega
          have yes : badQ q = true → ∃ acc, Hy D4 = some (.lst acc) ∧ acc.length < sizeLine ∧ Same Hx (upd Hy D4 (.lst (acc ++ [V.ref b]))) ∧ ∃ vs, upd Hy D4 (.lst (acc ++ [V.ref b])) D4 = some (.lst vs) ∧ vs.length = ((r.take (m + 1)).filter badQ).length ∧ ∀ v ∈ vs, ∃ (b' : Addr) (q : Int × Int), v = .ref b' ∧ upd Hy D4 (.lst (acc ++ [V.ref b])) b' = some (.tup [.int q.1, .int q.2]) := fun hb => by
            refine ⟨vs, ev, by omega, same_into h4 sy, _, upd_same, ?_, fun v hvm => ?_⟩
            · rw [et, List.filter_append, List.filter_cons_of_pos hb, List.length_append, List.length_append, lv]
              rfl
            · have ts : TupStay Hy (upd Hy D4 (.lst (vs ++ [V.ref b]))) := ts_put ev
              rcases List.mem_append.mp hvm with z | z
              · obtain ⟨b', q', e1, e2⟩ := hv v z
                exact ⟨b', q', e1, ts _ _ e2⟩
              · rw [List.mem_singleton.mp z]
                exact ⟨b, q, rfl, ts _ _ eby⟩
          have no : badQ q = false → Same Hx Hy ∧ ∃ vs, Hy D4 = some (.lst vs) ∧ vs.length = ((r.take (m + 1)).filter badQ).length ∧ ∀ v ∈ vs, ∃ (b : Addr) (q : Int × Int), v = .ref b ∧ Hy b = some (.tup [.int q.1, .int q.2]) := fun hb => by
            refine ⟨sy, vs, ev, ?_, hv⟩
            rw [et, List.filter_append, List.filter_cons_of_neg (by rw [hb]; exact Bool.false_ne_true), List.filter_nil, List.append_nil, lv]
          refine ⟨rfl, ?_⟩
          refine ⟨_, rfl, b, _, 0, _, rfl, rfl, SqT.of eby, rfl, _, _, rfl, rfl, _, rfl, ite2 (fun h => ?_) (fun h => ?_)⟩
          · refine iteT ⟨_, rfl, yes ?_⟩
            unfold badQ
            rw [h]
            rfl
          · refine ⟨_, rfl, b, _, 1, _, rfl, rfl, SqT.of eby, rfl, _, _, rfl, rfl, _, rfl, ite2 (fun h' => ?_) (fun h' => ?_)⟩
            · refine ⟨_, rfl, yes ?_⟩
              unfold badQ
              rw [h', Bool.or_true]
            · refine no ?_
              unfold badQ
              rw [Bool.eq_false_iff.mpr h, Bool.eq_false_iff.mpr h']
              rfl
        · rintro Hy ⟨sy, vs, ev, lv, hv⟩
          rw [List.take_of_length_le (by omega)] at lv
          obtain ⟨qs, lq, dq⟩ := dp_of_pairs (K := K) hv
          refine ⟨by show 0 ≤ sizeLine; omega, fun D5 h5 => ?_⟩
          have s5 := same_upd (o := HO.lst []) h5
          obtain ⟨qs, lq, dq⟩ := dp_of_pairs (K := K) (H := upd Hy D5 (.lst [])) (vs := vs) fun v hvm => let ⟨b, q, e1, e2⟩ := hv v hvm; ⟨b, q, e1, s5 _ _ e2⟩
          refine ⟨.list ((qs.map inD).map tw), .list [], .lst (SqL.of (s5 _ _ ev)) dq, .lst (SqL.of upd_same) .nil, (shp_limL qs).ok, rfl, _, rfl, ?_⟩
          rw [eqv_nilL, lim_emp]
          have s05 := sx.trans (sy.trans s5)
          have eb5 := s5 _ _ (sy _ _ eb)
          have l35 := (l3.same sy).same s5
          have et : (dealP ps n D).take (j + 1) = (dealP ps n D).take j ++ [r] := by rw [List.take_add_one, hrm]; rfl
          cases hany : r.any badQ with
          | true =>
            have e : qs.isEmpty = false := by
              cases hq : qs with
              | cons a l => rfl
              | nil =>
                exfalso
                rw [hq] at lq
                rw [← lq] at lv
                obtain ⟨q, hqr, hqb⟩ := List.any_eq_true.mp hany
                have : q ∈ r.filter badQ := List.mem_filter.mpr ⟨hqr, hqb⟩
                rw [List.eq_nil_of_length_eq_zero lv.symm] at this
                cases this
            rw [e]
            refine iteT ⟨_, rfl, bs, eb5, by omega, same_into h3 s05, ⟨_, upd_same, by rw [List.length_append]; show _ + 1 ≤ _; omega⟩, ?_⟩
            rw [et, List.filter_append, List.filter_cons_of_pos (p := fun r : List (Int × Int) => r.any badQ) hany, List.map_append]
            exact l35.put eb5 (od.same s05) (tup_lim r)
          | false =>
            have e : qs.isEmpty = true := by
              cases hq : qs with
              | nil => rfl
              | cons a l =>
                exfalso
                have hn : r.filter badQ = [] := List.filter_eq_nil_iff.mpr fun q hqr => by
                  have := List.any_eq_false.mp hany q hqr
                  exact this
                rw [hn, ← lq, hq] at lv
                cases lv
            rw [e]
            refine iteF ⟨s05, ⟨bs, eb5, by omega⟩, ?_⟩
            rw [et, List.filter_append, List.filter_cons_of_neg (p := fun r : List (Int × Int) => r.any badQ) (by rw [hany]; exact Bool.false_ne_true), List.filter_nil, List.append_nil]
            exact l35
      · rintro Hx ⟨sx, ⟨bs, eb, lb⟩, l3⟩
        have ldl : (dealP ps n D).length = us.length := by unfold dealP; rw [List.length_map, List.length_range, lus]
        rw [List.take_of_length_le (by omega)] at l3
        refine gn ?_
        dsimp only
        refine ⟨_, rfl, by show 0 ≤ sizeLine; omega, fun D5 h5 => ?_⟩
        have s5 := same_upd (o := HO.lst []) h5
        have l35 := l3.same s5
        obtain ⟨bs', eb', ob', tb'⟩ := l35
        refine ⟨.list _, .list [], .lst (SqL.of eb') (ob'.dp tb'), .lst (SqL.of upd_same) .nil, (shp_lst (k := 5) fun d hd => ?_).ok, rfl, _, rfl, ?_⟩
        · obtain ⟨r, _, rfl⟩ := List.mem_map.mp hd
          exact shp_lim r
        rw [eqv_nilL]
        have hold5 : ∀ b o, H b = some o → _ := fun b o e => s5 _ _ (sx _ _ (hold b o e))
        have hb := due_bad hg (D := D) n1
        cases hany : ps.any (tooB n D) with
        | true =>
          rw [hany] at hb
          obtain ⟨r, hr1, hr2⟩ := List.any_eq_true.mp hb
          have hm : r ∈ (dealP ps n D).filter fun r => r.any badQ := List.mem_filter.mpr ⟨hr1, hr2⟩
          have e : (((dealP ps n D).filter fun r => r.any badQ).map limP).isEmpty = false := by
            cases hq : (dealP ps n D).filter fun r => r.any badQ with
            | nil => rw [hq] at hm; cases hm
            | cons a l => rfl
          rw [e]
          refine iteF ⟨by show 1 ≤ sizeLine; omega, fun z hz => ?_⟩
          refine k _ _ (fun b o e => same_upd hz _ _ (hold5 b o e)) ?_
          unfold dueD
          rw [if_pos hany]
          exact .tup upd_same (.cons (.str _) .nil)
        | false =>
          rw [hany] at hb
          have hn : (dealP ps n D).filter (fun r => r.any badQ) = [] := List.filter_eq_nil_iff.mpr fun r hr1 => by
            have := List.any_eq_false.mp hb r hr1
            exact this
          rw [hn]
          refine iteT ⟨_, rfl, D1, us, rfl, .inl ⟨SqL.of (s5 _ _ (sx _ _ eu)), fun z hz => ?_⟩⟩
          have sz := same_upd (o := HO.tup us) hz
          refine k _ _ (fun b o e => sz _ _ (hold5 b o e)) ?_
          unfold dueD
          rw [if_neg (by rw [hany]; exact Bool.false_ne_true), ← erow]
          exact .tup upd_same (((ou.same sx).same s5).same sz)
end
end KP

set_option Elab.async false
set_option maxRecDepth 100000
set_option maxHeartbeats 4000000
set_option linter.all false
/-! Ours: all but the well and the tables; what is dealt, small and right. -/
namespace KP
open PySem PySem.Spec PyProof.Rows L2 Gr GxR
def Mv {K : PySem.W.Frag} {mg : Str → Option Value} (T : D K mg) (p : Addr) (H H' : Hp) : Prop := (∀ b o, H b = some o → b ≠ p → (∀ ps, o ≠ .tbl ps) → H' b = some o) ∧ Well H' p ∧ Tb (tabs T) H'
section
variable {K : PySem.W.Frag} {mg : Str → Option Value} {T : D K mg} {p : Addr} {H H1 H2 : Hp}
theorem Mv.refl (w : Well H p) (h : Tb (tabs T) H) : Mv T p H H := ⟨fun _ _ e _ _ => e, w, h⟩
theorem Mv.trans (a : Mv T p H H1) (b : Mv T p H1 H2) : Mv T p H H2 := ⟨fun x o e n m => b.1 x o (a.1 x o e n m) n m, b.2⟩
theorem tab_but {q : Addr} (w : Well H p) (h : TabG H q) (b : But H H1 p) : TabG H1 q := by
  obtain ⟨ps, e, t⟩ := h
  refine ⟨ps, b _ _ e fun z => ?_, t⟩
  obtain ⟨_, _, _, ew⟩ := w
  rw [z, ew] at e
  cases e
theorem Mv.but (w : Well H p) (h : Tb (tabs T) H) (b : But H H1 p) (w1 : Well H1 p) : Mv T p H H1 := ⟨fun x o e n _ => b x o e n, w1, fun q hq => tab_but w (h q hq) b⟩
theorem Mv.up (w : Well H p) (h : Tb (tabs T) H) (u : UpL (tabs T) H H1) : Mv T p H H1 := by
  have s := u.stay h
  refine ⟨fun x o e _ m => s x o e m, ?_, u.1⟩
  obtain ⟨a, b, c, e⟩ := w
  exact ⟨a, b, c, s _ _ e (fun _ q => nomatch q)⟩
theorem Mv.same (w : Well H p) (h : Tb (tabs T) H) (s : Same H H1) : Mv T p H H1 := Mv.up w h (UpL.same h s)
theorem Mv.hid (m : Mv T p H H1) {v : V} {d : PyData} (o : Od (hide H [p]) v d) : Od (hide H1 [p]) v d := by
  refine o.stay fun a x e n => ?_
  unfold hide at e ⊢
  split at e
  · cases e
  · rename_i z
    rw [if_neg z]
    exact m.1 a x e (fun q => z (by rw [q]; exact List.mem_cons_self)) n
theorem Mv.b (m : Mv T p H H1) (b : But H1 H2 p) (w : Well H2 p) : Mv T p H H2 := m.trans (Mv.but m.2.1 m.2.2 b w)
theorem Mv.s (m : Mv T p H H1) (s : Same H1 H2) : Mv T p H H2 := m.trans (Mv.same m.2.1 m.2.2 s)
theorem Mv.u (m : Mv T p H H1) (u : UpL (tabs T) H1 H2) : Mv T p H H2 := m.trans (Mv.up m.2.1 m.2.2 u)
/-- a list that was new is put anew -/
theorem Mv.put {D : Addr} {xs ys : List V} (m : Mv T p H H1) (n : H D = none) (e : H1 D = some (.lst xs)) (nd : D ≠ p) : Mv T p H (upd H1 D (.lst ys)) := by
  refine ⟨fun b o x y z => (upd_ne (ne_of_none x n)).trans (m.1 b o x y z), ?_, fun q hq => ?_⟩
  · obtain ⟨x1, x2, x3, w⟩ := m.2.1
    exact ⟨x1, x2, x3, (upd_ne (Ne.symm nd)).trans w⟩
  · obtain ⟨qs, w, tt⟩ := m.2.2 q hq
    refine ⟨qs, (upd_ne fun y => ?_).trans w, tt⟩
    rw [y, e] at w
    cases w
theorem Mv.lst {D : Addr} {xs : List V} (m : Mv T p H H1) (e : H D = some (.lst xs)) (nd : D ≠ p) : H1 D = some (.lst xs) := m.1 _ _ e nd fun _ q => nomatch q
end
theorem vis {H : Hp} {p : Addr} {v : V} {d : PyData} (o : Od (hide H [p]) v d) : Od H v d := o.same (hide_same _ _)
theorem od_mk {H : Hp} {p a : Addr} {xs : List V} {ds : List PyData} (w : Well H p) (e : H a = some (.tup xs)) (o : OdAll (hide H [p]) xs ds) : Od (hide H [p]) (.ref a) (.tuple ds) :=
  .tup (hide_at1 e (fun z => by
    obtain ⟨_, _, _, ew⟩ := w
    rw [z, ew] at e
    cases e)) o
theorem hidI {H : Hp} {p : Addr} {v : V} {ns : List Int} (w : Well H p) (h : IsI H v ns) : Od (hide H [p]) v (.tuple (ns.map PyData.int)) := by
  obtain ⟨a, rfl, e⟩ := h
  exact od_mk w e (ints_od ns)
theorem at_I {H : Hp} {a : Addr} {ns : List Int} (h : Od H (.ref a) (.tuple (ns.map PyData.int))) : H a = some (.tup (ns.map V.int)) := by
  obtain ⟨b, e, o⟩ := od_I h
  cases e
  exact o

theorem mv_ts {K : PySem.W.Frag} {mg : Str → Option Value} {T : D K mg} {p : Addr} {H H1 : Hp} (w : Well H p) (m : Mv T p H H1) : TupStay H H1 := fun a xs e => m.1 a _ e (fun z => by
  obtain ⟨_, _, _, ew⟩ := w
  rw [z, ew] at e
  cases e) fun _ q => nomatch q
theorem but_ts {p : Addr} {H H1 : Hp} (w : Well H p) (b : But H H1 p) : TupStay H H1 := by
  obtain ⟨_, _, _, e⟩ := w
  exact ts_but e b
theorem small_pair {q : Int × Int} (h : 0 ≤ q.1 ∧ q.1 ≤ 100 ∧ 0 ≤ q.2 ∧ q.2 ≤ 100) : SmallD 4 29 (tw (inD q)) := (small_tup (k := 2) (s := 11) fun d hd => by
  simp only [inD, List.mem_cons, List.not_mem_nil, or_false] at hd
  rcases hd with rfl | rfl
  · exact small_int (by omega) (by omega)
  · exact small_int (by omega) (by omega)).mono (by decide) (by show (11 + 2) * 2 + 3 ≤ 29; decide)
theorem small_lim {ps : List (Int × Int)} (g : Lm ps) : SmallD 6 127 (limP ps) := by
  have h := small_tup (k := 4) (s := 29) (ds := (ps.map inD).map tw) fun d hd => by
    obtain ⟨q, hq, rfl⟩ := List.mem_map.mp hd
    obtain ⟨p, hp, rfl⟩ := List.mem_map.mp hq
    have := g.2 p hp
    exact small_pair (by omega)
  refine h.mono (by decide) ?_
  rw [List.length_map, List.length_map]
  have := g.1
  omega
theorem no_too {ps : List (Int × Int)} {n D : Int} (h : ps.any (tooB n D) = false) {p : Int × Int} (hp : p ∈ ps) : n ≤ p.1 ∧ p.2 + D ≤ 12 := by
  have := List.any_eq_false.mp h p hp
  unfold tooB at this
  rw [Bool.or_eq_true, decide_eq_true_eq, decide_eq_true_eq] at this
  omega
theorem share_lm {ps : List (Int × Int)} (g : Lm ps) {n D : Int} (n1 : 1 ≤ n) (d0 : 0 ≤ D) (h : ps.any (tooB n D) = false) (i : Nat) : Lm (shareP ps n D (i : Nat)) := by
  refine ⟨by unfold shareP; rw [List.length_map]; exact g.1, fun q hq => ?_⟩
  obtain ⟨p, hp, rfl⟩ := List.mem_map.mp hq
  obtain ⟨a, b⟩ := no_too h hp
  have c := g.2 p hp
  have e1 : 1 ≤ p.1 / n := (Int.le_ediv_iff_mul_le (by omega)).mpr (by omega)
  have e2 : p.1 / n ≤ p.1 := Int.ediv_le_self n (by omega)
  have e3 : p.1 / n + (if ((i : Nat) : Int) < p.1 % n then 1 else 0) ≤ 6 := by
    by_cases z : n = 1
    · subst z
      rw [Int.emod_one, if_neg (by omega)]
      omega
    · have : p.1 / n ≤ p.1 / 2 := by
        have e4 : (p.1 / n) * n ≤ p.1 := Int.ediv_mul_le p.1 (by omega)
        have e5 : (p.1 / n) * 2 ≤ (p.1 / n) * n := Int.mul_le_mul_of_nonneg_left (by omega) (by omega)
        omega
      split <;> omega
  show 1 ≤ p.1 / n + (if ((i : Nat) : Int) < p.1 % n then 1 else 0) ∧ p.1 / n + (if ((i : Nat) : Int) < p.1 % n then 1 else 0) ≤ 6 ∧ 1 ≤ p.2 + D ∧ p.2 + D ≤ 12
  refine ⟨?_, e3, by omega, by omega⟩
  split <;> omega
theorem deal_lm {ps : List (Int × Int)} (g : Lm ps) {n D : Int} (n1 : 1 ≤ n) (d0 : 0 ≤ D) (h : ps.any (tooB n D) = false) : ∀ l ∈ dealP ps n D, Lm l := fun l hl => by
  obtain ⟨i, _, rfl⟩ := List.mem_map.mp hl
  exact share_lm g n1 d0 h i
theorem due_facts {ps : List (Int × Int)} (g : Lm ps) {n D : Int} (n1 : 1 ≤ n) (n6 : n ≤ 6) (d0 : 0 ≤ D) : (dueD ps n D).showable = true ∧ (dueD ps n D).depth ≤ 60 ∧ (dueD ps n D).shown.length ≤ sizeLine := by
  unfold dueD
  by_cases z : ps.any (tooB n D) = true
  · rw [if_pos z]
    exact ⟨rfl, by decide +kernel, by decide +kernel⟩
  · rw [if_neg z]
    have h := small_tup (k := 6) (s := 127) (ds := (dealP ps n D).map limP) fun d hd => by
      obtain ⟨l, hl, rfl⟩ := List.mem_map.mp hd
      exact small_lim (deal_lm g n1 d0 (by rwa [Bool.not_eq_true] at z) l hl)
    refine (h.mono (Nat.le_refl _) ?_).facts (s := 800) (by decide) (by decide)
    rw [List.length_map]
    unfold dealP
    rw [List.length_map, List.length_range]
    omega
theorem tup_due (ps : List (Int × Int)) (n D : Int) : tupD (dueD ps n D) = true := by
  unfold dueD
  split
  · simp [tupD, tupDs]
  · exact tupD_tup fun d hd => by
      obtain ⟨l, _, rfl⟩ := List.mem_map.mp hd
      exact tup_lim l
theorem shp_due (ps : List (Int × Int)) (n D : Int) : Shp 7 (dueD ps n D) := by
  unfold dueD
  split
  · exact ⟨by decide +kernel, by decide +kernel⟩
  · exact shp_tup (k := 5) fun d hd => by
      obtain ⟨l, _, rfl⟩ := List.mem_map.mp hd
      exact shp_lim l
theorem due_none {ps : List (Int × Int)} {n D : Int} (n1 : 1 ≤ n) : PyData.eqv (dueD ps n D) (.tuple [.str "none"]) = ps.any (tooB n D) := by
  unfold dueD
  cases z : ps.any (tooB n D) with
  | true => rw [if_pos rfl]; decide +kernel
  | false =>
    rw [if_neg Bool.false_ne_true]
    have : dealP ps n D ≠ [] := fun e => by
      have := congrArg List.length e
      unfold dealP at this
      rw [List.length_map, List.length_range] at this
      simp at this
      omega
    cases h : dealP ps n D with
    | nil => exact absurd h this
    | cons a l => rfl
/-- what is dealt keeps the shared limits -/
theorem keep_deal {ps : List (Int × Int)} (g : Lm ps) {n D : Int} (n1 : 1 ≤ n) (d0 : 0 ≤ D) (h : ps.any (tooB n D) = false) : keepB ((dealP ps n D).map fun l => (l, D)) ps = true := List.all_eq_true.mpr fun q hq => by
  obtain ⟨m, rfl⟩ := Int.eq_ofNat_of_zero_le (show 0 ≤ n by omega)
  unfold pairB
  have e1 : (((dealP ps (m : Nat) D).map fun l => (l, D)).any fun c => c.1.isEmpty) = false := List.any_eq_false.mpr fun c hc => by
    obtain ⟨l, hl, rfl⟩ := List.mem_map.mp hc
    obtain ⟨i, _, rfl⟩ := List.mem_map.mp hl
    have := share_mem hq (m : Nat) D i
    cases hs : shareP ps (m : Nat) D (i : Nat) with
    | nil => rw [hs] at this; cases this
    | cons a l => simp
  rw [e1, Bool.not_false, Bool.true_and]
  refine decide_eq_true ?_
  have e2 : (((dealP ps (m : Nat) D).map fun l => (l, D)).map fun c => ((mw c.1 (q.2 + c.2) : Nat) : Int)) = (List.range m).map fun i => ((mw (shareP ps (m : Nat) D (i : Nat)) (q.2 + D) : Nat) : Int) := by
    unfold dealP
    rw [List.map_map, List.map_map, Int.toNat_natCast]
    rfl
  rw [e2]
  have e3 := part_sum (p := q) (n := m) (by omega)
  rw [← e3]
  exact sum_mono fun i hi => mw_part hq (share_lm g n1 d0 h i) (by have := g.2 q hq; omega)
theorem sum_deal {ps : List (Int × Int)} (g : Lm ps) {n D : Int} (n1 : 1 ≤ n) (d0 : 0 ≤ D) (h : ps.any (tooB n D) = false) {q : Int × Int} (hq : q ∈ ps) : ((dealP ps n D).map fun l => belowI l (q.2 + D)).sum ≤ q.1 := by
  obtain ⟨m, rfl⟩ := Int.eq_ofNat_of_zero_le (show 0 ≤ n by omega)
  have e2 : ((dealP ps (m : Nat) D).map fun l => belowI l (q.2 + D)) = (List.range m).map fun i => ((mw (shareP ps (m : Nat) D (i : Nat)) (q.2 + D) : Nat) : Int) := by
    unfold dealP
    rw [List.map_map, Int.toNat_natCast]
    refine List.map_congr_left fun i _ => ?_
    show belowI (shareP ps (m : Nat) D (i : Nat)) (q.2 + D) = _
    unfold belowI
    rw [if_neg (List.ne_nil_of_mem (share_mem hq (m : Nat) D i))]
  rw [e2]
  have e3 := part_sum (p := q) (n := m) (by omega)
  rw [← e3]
  exact sum_mono fun i hi => mw_part hq (share_lm g n1 d0 h i) (by have := g.2 q hq; omega)
end KP

set_option Elab.async false
set_option maxRecDepth 100000
set_option maxHeartbeats 4000000
set_option linter.all false
/-! Ours: what is dealt is right. -/
namespace KP
open PySem PySem.Spec PyProof.Rows L2 Gr GxR
def spRight {K : PySem.W.Frag} {mg : Str → Option Value} (T : D K mg) : Sp := fun vs H Q _ => ∃ p : Addr, vs = [.ref p] ∧ Well H p ∧ Tb (tabs T) H ∧ ∀ H', Mv T p H H' → Q (.bl true) H'
theorem prs (ps : List (Int × Int)) : ps.map prD = (ps.map inD).map tw := by
  rw [List.map_map]
  rfl
theorem deal_get {ps : List (Int × Int)} {n D : Int} {i : Nat} (h : i < (dealP ps n D).length) : (dealP ps n D)[i] = shareP ps n D (i : Nat) := by simp [dealP]
theorem rowD_lim {d : PyData} (h : limR d) : ∃ ps, d = limP ps ∧ Lm ps := by
  obtain ⟨ps, rfl, hl⟩ := h
  exact ⟨ps, by rw [prs], hl.1, fun p hp => by have := hl.2 p hp; omega⟩
section
variable {P : Program} {w : World} {K : PySem.W.Frag} {mg : Str → Option Value} {base : Heap} {C : Addr}
theorem sc_dright : FnScope ["_law_well_here", "_law_shares", "_law_number", "_law_delay", "_law_pair", "_law_due_here", "_law_told", "_law_crews", "_law_pairs"] ["_law_well_here"] (defScope s_l_dealt_right) := ⟨rfl, rfl, rfl, by decide +kernel, rfl, by decide +kernel, by decide +kernel⟩
theorem ok_dright (T : D K mg) (TB : Tabs base T) (B : ExcF K mg "NoShare" C) (hM : SysM K) : FnQ P w K mg base CX0 9 T.f_l_dealt_right T.d_l_dealt_right ["_law_well_here"] (spRight T) := by
  refine funQ T.U_l_dealt_right sc_dright (fun vs H Q E h => ?_) (fun cdv A outer s H vs Q E hgu hr h => ?_)
  · obtain ⟨p, rfl, _⟩ := h
    rfl
  · obtain ⟨p, rfl, hp, hT, k⟩ := h
    have nd := sc_dright.nd
    have hu64 : (A.deeper (envOfC "_law_dealt_right" (defScope s_l_dealt_right) s.heap.objs.size T.f_l_dealt_right cdv)).units + 64 < cLine := hr.units
    have mz : 5000 ≤ sizeLine := by decide
    refine ⟨_, pss_cons (ps_set (i := 1) nd rfl (.inl rfl) (pe_call (ok_slim T) (hr.mono (by decide)) rfl T.g_l_some_limits T.U_l_some_limits.kp T.b_l_some_limits .nil pass0 (pa_cons (pv 0) (pa_cons pe_int (pa_cons (pe_call (ok_l_one T) (hr.mono (by decide)) rfl T.g_l_one T.U_l_one.kp T.b_l_one .nil pass0 (pa_cons (pv 0) (pa_cons (pe_lst (pa_cons pe_int (pa_cons pe_int pa_nil))) pa_nil))) pa_nil)))))
      (pss_cons (ps_asg (pe_tup (pa_cons (pe_op op_add pe_int (pe_call (ok_l_one T) (hr.mono (by decide)) rfl T.g_l_one T.U_l_one.kp T.b_l_one .nil pass0 (pa_cons (pv 0) (pa_cons (pe_lst (pa_cons pe_int (pa_cons pe_int (pa_cons pe_int (pa_cons pe_int (pa_cons pe_int (pa_cons pe_int pa_nil))))))) pa_nil)))) (pa_cons (pe_call (ok_l_one T) (hr.mono (by decide)) rfl T.g_l_one T.U_l_one.kp T.b_l_one .nil pass0 (pa_cons (pv 0) (pa_cons (pe_lst (pa_cons pe_int (pa_cons pe_int (pa_cons pe_int (pa_cons pe_int (pa_cons pe_int (pa_cons pe_int (pa_cons pe_int pa_nil)))))))) pa_nil))) pa_nil))) (pg_tup rfl (pgs_cons (pg_name (i := 2) nd rfl (.inr rfl)) (pgs_cons (pg_name (i := 3) nd rfl (.inr rfl)) pgs_nil))))
      (pss_cons (ps_if (pt_cmpR op_eq (pe_call (ok_l_pick T) (hr.mono (by decide)) rfl T.g_l_pick T.U_l_pick.kp T.b_l_pick .nil pass0 (pa_cons (pv 0) (pa_cons pe_int pa_nil))) pe_int (nomark _))
        (pss_one (ps_set (i := 1) nd rfl (.inl rfl) (pe_callTy call_tuple_of (by rfl) T.tuple (by decide +kernel) (pa_cons (pe_lc (own := [("_law_pair", 4)]) (g := gName 4) (tt := tYes) rfl nd (pi_tup (pv 1)) (blkOk_by (N := ["_law_well_here", "_law_shares", "_law_number", "_law_delay", "_law_pair", "_law_due_here", "_law_told", "_law_crews", "_law_pairs"]) (sc := defScope s_l_dealt_right) (by decide +kernel)) (fun _ _ _ _ _ => pg_name (i := 4) nd rfl (.inl rfl)) (fun _ _ _ _ _ => pts_nil) (fun _ _ _ _ _ => pe_tup (pa_cons (pe_callB (call_max2 rfl) (by rfl) T.max boot_max (pa_cons (pe_ix ix_tupB (pv 4) pe_int (fun _ _ => rfl)) (pa_cons (pv 2) pa_nil))) (pa_cons (pe_callB (call_min2 rfl) (by rfl) T.min boot_min (pa_cons (pe_ix ix_tupB (pv 4) pe_int (fun _ _ => rfl)) (pa_cons (pe_callB (call_max2 rfl) (by rfl) T.max boot_max (pa_cons pe_int (pa_cons (pe_op op_sub pe_int (pv 3)) pa_nil))) pa_nil))) pa_nil)))) pa_nil))))
        (pss_nil))
      (pss_cons (ps_par (i := 5) (j := 6) (by rfl) nd rfl rfl (by decide) rfl rfl (pa_cons (pe_call (ok_due T) (hr.mono (by decide)) rfl T.g_l_due T.U_l_due.kp T.b_l_due .nil pass0 (pa_cons (pv 1) (pa_cons (pv 2) (pa_cons (pv 3) pa_nil)))) (pa_cons (pe_call (ok_ldealt T TB B) hr rfl T.g_l_dealt T.U_l_dealt.kp T.b_l_dealt .nil pass0 (pa_cons (pv 1) (pa_cons (pv 2) (pa_cons (pv 3) pa_nil)))) pa_nil)) (by rfl))
      (pss_cons (ps_if (PW.pt (pw_or (pt_cmpR op_ne (pe_callB (call_reprD hgu hu64 hM) (by rfl) T.repr (by decide +kernel) (pa_cons (pv 6) pa_nil)) (pe_callB (call_reprD hgu hu64 hM) (by rfl) T.repr (by decide +kernel) (pa_cons (pv 5) pa_nil)) (nomark _)) (pw_or1 (pt_cmpR (op_eqD hu64) (pv 5) (pe_tup (pa_cons pe_str pa_nil)) (nomark _)))))
        (pss_one (ps_ret (pe_cmpR op_eq (pe_callB (call_reprD hgu hu64 hM) (by rfl) T.repr (by decide +kernel) (pa_cons (pv 6) pa_nil)) (pe_callB (call_reprD hgu hu64 hM) (by rfl) T.repr (by decide +kernel) (pa_cons (pv 5) pa_nil)) (nomark _))))
        (pss_nil))
      (pss_cons (ps_set (i := 7) nd rfl (.inl rfl) (pe_callTy call_tuple_of (by rfl) T.tuple (by decide +kernel) (pa_cons (pe_lc (own := [("_law_pairs", 8)]) (g := gName 8) (tt := tYes) rfl nd (pi_tup (pv 6)) (blkOk_by (N := ["_law_well_here", "_law_shares", "_law_number", "_law_delay", "_law_pair", "_law_due_here", "_law_told", "_law_crews", "_law_pairs"]) (sc := defScope s_l_dealt_right) (by decide +kernel)) (fun _ _ _ _ _ => pg_name (i := 8) nd rfl (.inl rfl)) (fun _ _ _ _ _ => pts_nil) (fun _ _ _ _ _ => pe_tup (pa_cons (pv 8) (pa_cons (pv 3) pa_nil)))) pa_nil)))
      (pss_cons (ps_if (pt_cmpR op_ne (pe_callB (call_reprD hgu hu64 hM) (by rfl) T.repr (by decide +kernel) (pa_cons (pe_lst (pa_cons (pe_call (ok_keep T TB) hr rfl T.g_keep T.U_keep.kp T.b_keep .nil pass0 (pa_cons (pv 7) (pa_cons (pv 1) pa_nil))) (pa_cons (pe_call (ok_break T TB) hr rfl T.g_breaking T.U_breaking.kp T.b_breaking .nil pass0 (pa_cons (pv 7) (pa_cons (pv 1) pa_nil))) pa_nil))) pa_nil)) pe_str (nomark _))
        (pss_one (ps_ret pe_bl))
        (pss_nil))
      (pss_cons (ps_for PassesOwn.never rfl (pi_tup (pv 1)) (pg_name (i := 4) nd rfl (.inr rfl))
        (pss_cons (ps_if (pt_cmpR op_gt (pe_callB (cr_sum rfl) (by rfl) T.sum (by decide +kernel) (pa_cons (pe_lc (own := [("_law_pairs", 8)]) (g := gName 8) (tt := tYes) rfl nd (pi_tup (pv 5)) (blkOk_by (N := ["_law_well_here", "_law_shares", "_law_number", "_law_delay", "_law_pair", "_law_due_here", "_law_told", "_law_crews", "_law_pairs"]) (sc := defScope s_l_dealt_right) (by decide +kernel)) (fun _ _ _ _ _ => pg_name (i := 8) nd rfl (.inl rfl)) (fun _ _ _ _ _ => pts_nil) (fun _ _ _ _ _ => pe_call (ok_below T) (hr.mono (by decide)) rfl T.g_l_below T.U_l_below.kp T.b_l_below .nil pass0 (pa_cons (pv 8) (pa_cons (pe_op op_add (pe_ix ix_tupB (pv 4) pe_int (fun _ _ => rfl)) (pv 3)) pa_nil)))) pa_nil)) (pe_ix ix_tup (pv 4) pe_int (fun _ _ => rfl)) (nomark _))
          (pss_one (ps_ret pe_bl))
          (pss_nil))
        (pss_one (ps_if (pt_cmpR op_notN (pe_call (ok_lwat T) (hr.mono (by decide)) rfl T.g_l_wrong_at T.U_l_wrong_at.kp T.b_l_wrong_at .nil pass0 (pa_cons (pv 1) (pa_cons (pe_tup (pa_cons pe_int pa_nil)) (pa_cons (pe_call (ok_close T) (hr.mono (by decide)) rfl T.g_l_close T.U_l_close.kp T.b_l_close .nil pass0 (pa_cons (pv 5) (pa_cons (pv 3) (pa_cons (pe_ix ix_tup (pv 4) pe_int (fun _ _ => rfl)) pa_nil)))) pa_nil)))) pe_non (nomark _))
          (pss_one (ps_ret pe_bl))
          (pss_nil)))))
      (pss_one (ps_ret pe_bl))))))))), ?_⟩
    -- the draws
    refine ⟨_, rfl, _, rfl, by show 2 ≤ sizeLine; omega, fun q0 hq0 => ?_⟩
    have s0 := same_upd (o := HO.lst [V.int 6, V.int 12]) hq0
    refine ⟨p, q0, _, rfl, hp.same s0, upd_same, well_ne hp hq0, by decide, by decide, fun i0 v0 H0 hv0 w0 b0 => ?_⟩
    obtain ⟨wd, rfl, wd0, wd12⟩ : ∃ n : Int, v0 = .int n ∧ 0 < n ∧ n ≤ 12 := by
      have hm := List.mem_of_getElem? hv0
      simp only [List.mem_cons, List.not_mem_nil, or_false] at hm
      rcases hm with rfl | rfl <;> exact ⟨_, rfl, by decide, by decide⟩
    have b00 := (But.same' s0).trans b0
    have m0 := Mv.but hp hT b00 w0
    refine ⟨p, 6, wd, rfl, w0, by decide, by decide, wd0, wd12, fun sv dl H1 b1 w1 o1 c1 => gn ?_⟩
    obtain ⟨ps, rfl, hg⟩ := rowD_lim c1
    have m1 := m0.b b1 w1
    have oS := vis o1
    clear b00 b0 s0 m0 b1 w0 o1 c1 hv0 hq0
    refine ⟨_, rfl, by show 6 ≤ sizeLine; omega, fun q2 hq2 => ?_⟩
    have s2 := same_upd (o := HO.lst [V.int 0, V.int 1, V.int 1, V.int 2, V.int 3, V.int 5]) hq2
    refine ⟨p, q2, _, rfl, w1.same s2, upd_same, well_ne w1 hq2, Nat.zero_lt_succ _, by show 6 ≤ 1000; omega, fun i2 v2 H2 hv2 w2 b2 => ?_⟩
    obtain ⟨nn, rfl, nn0, nn5⟩ : ∃ n : Int, v2 = .int n ∧ 0 ≤ n ∧ n ≤ 5 := by
      have hm := List.mem_of_getElem? hv2
      simp only [List.mem_cons, List.not_mem_nil, or_false] at hm
      rcases hm with rfl | rfl | rfl | rfl | rfl | rfl <;> exact ⟨_, rfl, by decide, by decide⟩
    have m2 := (m1.s s2).b b2 w2
    replace oS := oS.ts ((same_ts s2).trans (but_ts (w1.same s2) b2)) (tup_lim ps)
    refine ⟨_, _, rfl, rfl, _, rfl, by show 7 ≤ sizeLine; omega, fun q3 hq3 => ?_⟩
    have s3 := same_upd (o := HO.lst [V.int 0, V.int 0, V.int 1, V.int 2, V.int 4, V.int 7, V.int 24]) hq3
    refine ⟨p, q3, _, rfl, w2.same s3, upd_same, well_ne w2 hq3, Nat.zero_lt_succ _, by show 7 ≤ 1000; omega, fun i3 v3 H3 hv3 w3 b3 => ?_⟩
    obtain ⟨D, rfl, d0, d24⟩ : ∃ n : Int, v3 = .int n ∧ 0 ≤ n ∧ n ≤ 24 := by
      have hm := List.mem_of_getElem? hv3
      simp only [List.mem_cons, List.not_mem_nil, or_false] at hm
      rcases hm with rfl | rfl | rfl | rfl | rfl | rfl | rfl <;> exact ⟨_, rfl, by decide, by decide⟩
    have m3 := (m2.s s3).b b3 w3
    replace oS := oS.ts ((same_ts s3).trans (but_ts (w2.same s3) b3)) (tup_lim ps)
    refine ⟨by show 2 ≤ sizeLine; omega, fun t3 ht3 => ⟨t3, _, rfl, SqT.of upd_same, rfl, _, _, rfl, _, _, rfl, rfl, ?_⟩⟩
    have st3 := same_upd (o := HO.tup [V.int (1 + nn), V.int D]) ht3
    replace m3 := m3.s st3
    replace w3 := w3.same st3
    replace oS := oS.same st3
    generalize upd H3 t3 (.tup [V.int (1 + nn), V.int D]) = H3 at *
    clear st3 ht3
    obtain ⟨n, hn, n1, n6⟩ : ∃ n : Int, 1 + nn = n ∧ 1 ≤ n ∧ n ≤ 6 := ⟨_, rfl, by omega, by omega⟩
    dsimp only
    rw [hn]
    clear m1 m2 s2 s3 b2 b3 hq2 hq3 hv2 hv3 w1 w2 hn nn0 nn5
    try dsimp only
    refine cut1 (fun σ' H' => ∃ (sv : V) (ps : List (Int × Int)), Lm ps ∧ Od H' sv (limP ps) ∧ Mv T p H H' ∧ σ' = [some (.ref p), some sv, some (.int n), some (.int D), none, none, none, none, none]) (fun N hN => ?_) ?_
    · refine ⟨_, rfl, p, 2, rfl, w3, by decide, by decide, fun r H4 r0 r1 w4 b4 => ⟨rfl, _, rfl, ?_⟩⟩
      have m4 := m3.b b4 w4
      replace oS := oS.ts (but_ts w3 b4) (tup_lim ps)
      refine ite2 (fun _ => ?_) (fun _ => hN _ _ ⟨sv, ps, hg, oS, m4, rfl⟩)
      obtain ⟨la, ls, rfl, el, ol⟩ := od_tup oS
      have lls : ls.length = ps.length := by rw [ol.len, List.length_map, List.length_map]
      refine ⟨_, rfl, la, rfl, ⟨_, SqT.of el⟩, fun Dn hDn => lc_tup (K := K) (a := la) (xs := ls) (fun i Hx => Same H4 Hx ∧ (∃ us, Hx Dn = some (.lst us) ∧ us.length = i) ∧ ∃ qs : List (Int × Int), qs.length = i ∧ (∀ q ∈ qs, 1 ≤ q.1 ∧ q.1 ≤ 6 ∧ 1 ≤ q.2 ∧ q.2 ≤ 12) ∧ LstT Hx Dn ((qs.map inD).map tw)) ⟨same_upd hDn, ⟨[], upd_same, rfl⟩, [], rfl, (fun _ h => nomatch h), LstT.at upd_same⟩ (fun i Hx _ q => SqT.of (q.1 _ _ el)) ?_ ?_⟩
      · rintro i x Hx hx ⟨sx, ⟨us, eu, lu⟩, qs, lq, hqs, lt⟩
        obtain ⟨q, b, hqm, rfl, eb⟩ := pair_at ol hx
        have hi := (List.getElem?_eq_some_iff.mp hqm).1
        have hq := hg.2 q (List.mem_of_getElem? hqm)
        have ebx := sx _ _ eb
        refine ⟨rfl, ?_⟩
        unfold tYes
        dsimp only
        rw [if_pos rfl]
        refine ⟨_, rfl, b, _, 0, _, rfl, rfl, SqT.of ebx, rfl, _, rfl, _, _, rfl, _, rfl, b, _, 1, _, rfl, rfl, SqT.of ebx, rfl, _, rfl, _, _, rfl, rfl, _, _, rfl, _, _, rfl, by show 2 ≤ sizeLine; omega, fun t ht => ?_⟩
        obtain ⟨x1, hx1, x10, x11⟩ : ∃ x1 : Int, (if n > q.1 then n else q.1) = x1 ∧ 1 ≤ x1 ∧ x1 ≤ 6 := ⟨_, rfl, by split <;> omega, by split <;> omega⟩
        obtain ⟨x2, hx2, x20, x21⟩ : ∃ x2 : Int, (if (if 12 - D > 1 then 12 - D else 1) < q.2 then (if 12 - D > 1 then 12 - D else 1) else q.2) = x2 ∧ 1 ≤ x2 ∧ x2 ≤ 12 := ⟨_, rfl, by split <;> split <;> omega, by split <;> split <;> omega⟩
        rw [hx1, hx2]
        have st := same_upd (o := HO.tup [V.int x1, V.int x2]) ht
        have et : upd Hx t (.tup [V.int x1, V.int x2]) t = some (.tup [V.int x1, V.int x2]) := upd_same
        replace lt := lt.same st
        replace eu := st _ _ eu
        replace sx := sx.trans st
        generalize upd Hx t (.tup [V.int x1, V.int x2]) = H6 at *
        refine ⟨us, eu, by have := hg.1; omega, same_into hDn sx, ⟨_, upd_same, by rw [List.length_append, lu]; rfl⟩, qs ++ [(x1, x2)], by rw [List.length_append, lq]; rfl, fun q' hq' => ?_, ?_⟩
        · rcases List.mem_append.mp hq' with z | z
          · exact hqs q' z
          · rw [List.mem_singleton.mp z]
            exact ⟨x10, x11, x20, x21⟩
        · rw [List.map_append, List.map_append]
          exact lt.put eu (.tup et (.cons (.int _) (.cons (.int _) .nil))) (tup_pair (x1, x2))
      · rintro Hx ⟨sx, ⟨us, eu, lu⟩, qs, lq, hqs, lt⟩
        refine ⟨Dn, us, rfl, .inl ⟨SqL.of eu, fun R hR => gn ?_⟩⟩
        exact hN _ _ ⟨.ref R, qs, ⟨by rw [lq, lls]; exact hg.1, hqs⟩, lt.tup eu hR, (m4.s sx).s (same_upd hR), rfl⟩
    clear oS m3 w3 hg ps
    rintro σ' H4 ⟨sv, ps, hg, oS, m4, rfl⟩
    have w4 := m4.2.1
    -- due, told
    refine ⟨_, rfl, _, rfl, _, rfl, sv, n, D, ps, rfl, oS, hg, n1, n6, d0, d24, fun z5 H5 s5 o5 => ?_⟩
    have m5 := m4.s s5
    refine ⟨_, rfl, _, rfl, _, rfl, sv, n, D, ps, rfl, oS.same s5, hg, n1, n6, d0, d24, m5.2.2, fun z6 H6 u6 o6 => ⟨_, _, rfl, ?_⟩⟩
    have m6 := m5.u u6
    have t56 := stay_ts (u6.stay m5.2.2)
    replace o5 := o5.ts t56 (tup_due ps n D)
    replace oS := (oS.same s5).ts t56 (tup_lim ps)
    obtain ⟨f1, f2, f3⟩ := due_facts hg n1 n6 d0 (D := D)
    clear t56 u6 m5 s5 m4 w4
    dsimp only
    refine ⟨_, rfl, _, _, rfl, o6.dq, f1, f2, f3, _, rfl, _, _, rfl, o5.dq, f1, f2, f3, rfl, _, rfl, ?_⟩
    rw [decide_eq_true rfl]
    refine iteF ?_
    dsimp only
    refine ⟨_, rfl, by show 1 ≤ sizeLine; omega, fun c7 hc7 => ?_⟩
    have s7 := same_upd (o := HO.tup [V.str "none"]) hc7
    have m7 := m6.s s7
    replace o5 := o5.same s7
    replace o6 := o6.same s7
    replace oS := oS.same s7
    refine ⟨_, .tuple [.str "none"], o5.dp (tup_due ps n D), .tup (SqT.of upd_same) (.cons (.str _) .nil), (shp_due ps n D).ok, by decide +kernel, _, rfl, ?_⟩
    rw [due_none n1]
    generalize upd H6 c7 (.tup [V.str "none"]) = H7 at *
    clear s7 hc7 m6
    cases hany : ps.any (tooB n D) with
    | true =>
      refine iteT ?_
      refine ⟨_, rfl, _, _, rfl, o6.dq, f1, f2, f3, _, rfl, _, _, rfl, o5.dq, f1, f2, f3, rfl, ?_⟩
      rw [decide_eq_true rfl]
      exact k _ m7
    | false =>
      refine iteF (next_of ?_)
      have ed : dueD ps n D = .tuple ((dealP ps n D).map limP) := by
        unfold dueD
        rw [if_neg (by rw [hany]; exact Bool.false_ne_true)]
      rw [ed] at o5 o6
      have hdl := deal_lm hg n1 d0 hany
      have ldl : (dealP ps n D).length = n.toNat := by unfold dealP; rw [List.length_map, List.length_range]
      dsimp only
      obtain ⟨ta, txs, rfl, et, ot⟩ := od_tup o6
      have ltx : txs.length = (dealP ps n D).length := by rw [ot.len, List.length_map]
      refine ⟨_, rfl, ta, rfl, ⟨_, SqT.of et⟩, fun Dn hDn => lc_tup (K := K) (a := ta) (xs := txs) (fun i Hx => Same H7 Hx ∧ (∃ us, Hx Dn = some (.lst us) ∧ us.length = i) ∧ LstT Hx Dn ((((dealP ps n D).take i).map fun l => (l, D)).map partP)) ⟨same_upd hDn, ⟨[], upd_same, rfl⟩, LstT.at upd_same⟩ (fun i Hx _ q => SqT.of (q.1 _ _ et)) ?_ ?_⟩
      · rintro i x Hx hx ⟨sx, ⟨us, eu, lu⟩, lt⟩
        obtain ⟨d, hdm, od⟩ := od_at ot hx
        rw [List.getElem?_map] at hdm
        obtain ⟨l, hlm, rfl⟩ := Option.map_eq_some_iff.mp hdm
        have hi := (List.getElem?_eq_some_iff.mp hlm).1
        refine ⟨rfl, ?_⟩
        unfold tYes
        dsimp only
        rw [if_pos rfl]
        refine ⟨_, rfl, _, rfl, by show 2 ≤ sizeLine; omega, fun t ht => ?_⟩
        have st := same_upd (o := HO.tup [x, V.int D]) ht
        have e2 : upd Hx t (.tup [x, V.int D]) t = some (.tup [x, V.int D]) := upd_same
        replace lt := lt.same st
        replace eu := st _ _ eu
        replace sx := sx.trans st
        generalize upd Hx t (.tup [x, V.int D]) = H8 at *
        refine ⟨us, eu, by omega, same_into hDn sx, ⟨_, upd_same, by rw [List.length_append, lu]; rfl⟩, ?_⟩
        rw [List.take_add_one, hlm, List.map_append, List.map_append]
        exact lt.put eu (.tup e2 (.cons (od.same sx) (.cons (.int _) .nil))) (tup_part (l, D))
      · rintro Hx ⟨sx, ⟨us, eu, lu⟩, lt⟩
        rw [ltx, List.take_length] at lt
        refine ⟨Dn, us, rfl, .inl ⟨SqL.of eu, fun R hR => gn ?_⟩⟩
        have sR := same_upd (o := HO.tup us) hR
        have oC := lt.tup eu hR
        have sxR := sx.trans sR
        have m8 := m7.s sxR
        replace o5 := o5.same sxR
        replace oS := oS.same sxR
        generalize upd Hx R (.tup us) = H8 at *
        clear lt eu lu us sx sR sxR hR hDn et ot ltx txs o6 m7
        have hkeep := keep_deal hg n1 d0 hany
        have cl : ((dealP ps n D).map fun l => (l, D)).length = n.toNat := by rw [List.length_map, ldl]
        have cok : ∀ c ∈ (dealP ps n D).map fun l => (l, D), PartOk c := fun c hc => by
          obtain ⟨l, hl, rfl⟩ := List.mem_map.mp hc
          exact ⟨hdl l hl, d0, d24⟩
        dsimp only
        refine ⟨_, rfl, _, rfl, .ref R, sv, _, ps, rfl, oC, by omega, by omega, cok, oS, hg, m8.2.2, fun H9 u9 => ?_⟩
        have m9 := m8.u u9
        have t9 := stay_ts (u9.stay m8.2.2)
        have tC : tupD (.tuple (((dealP ps n D).map fun l => (l, D)).map partP)) = true := tupD_tup fun d hd => by
          obtain ⟨c, _, rfl⟩ := List.mem_map.mp hd
          exact tup_part c
        have tE : tupD (.tuple ((dealP ps n D).map limP)) = true := tupD_tup fun d hd => by
          obtain ⟨c, _, rfl⟩ := List.mem_map.mp hd
          exact tup_lim c
        replace o5 := o5.ts t9 tE
        replace oS := oS.ts t9 (tup_lim ps)
        replace oC := oC.ts t9 tC
        refine ⟨_, rfl, _, rfl, .ref R, sv, _, ps, rfl, oC, by omega, by omega, cok, oS, hg, hkeep, m9.2.2, fun H10 u10 => ?_⟩
        have m10 := m9.u u10
        have t10 := stay_ts (u10.stay m9.2.2)
        replace o5 := o5.ts t10 tE
        replace oS := oS.ts t10 (tup_lim ps)
        rw [hkeep]
        refine ⟨by show 2 ≤ sizeLine; omega, fun l1 hl1 => ?_⟩
        have sl1 := same_upd (o := HO.lst [V.bl true, V.non]) hl1
        refine ⟨_, .list [.bool true, .none], rfl, .lst (SqL.of upd_same) (.cons (.bl _) (.cons .non .nil)), rfl, by decide +kernel, by decide +kernel, rfl, _, rfl, ?_⟩
        rw [show (PyData.list [.bool true, .none]).shown = "[True, None]" from by decide +kernel, decide_eq_true rfl]
        refine iteF (next_of ?_)
        have m11 := m10.s sl1
        replace o5 := o5.same sl1
        replace oS := oS.same sl1
        generalize upd H10 l1 (.lst [V.bl true, V.non]) = H11 at *
        clear sl1 hl1 t10 u10 m10 t9 u9 m9 oC m8
        dsimp only
        obtain ⟨sa, ss, rfl, es, os⟩ := od_tup oS
        obtain ⟨ea, exs, rfl, ee, oe⟩ := od_tup o5
        have lss : ss.length = ps.length := by rw [os.len, List.length_map, List.length_map]
        have lex : exs.length = (dealP ps n D).length := by rw [oe.len, List.length_map]
        refine ⟨_, rfl, sa, rfl, ⟨_, SqT.of es⟩, for_tup (K := K) (a := sa) (xs := ss) (fun j σ Hx => Same H11 Hx ∧ ∃ (v4 v8 : Option V), σ = [some (.ref p), some (.ref sa), some (.int n), some (.int D), v4, some (.ref ea), some (.ref ta), some (.ref R), v8]) ⟨.refl _, _, _, rfl⟩ (fun j σ Hx _ q => SqT.of (q.1 _ _ es)) ?_ ?_⟩
        · rintro j x σ Hx hx ⟨sx, v4, v8, rfl⟩
          obtain ⟨q, b, hqm, rfl, eb⟩ := pair_at os hx
          have hqp := List.mem_of_getElem? hqm
          have hq := hg.2 q hqp
          have hno := no_too hany hqp
          refine gn ?_
          refine ⟨_, rfl, ea, rfl, ⟨_, SqT.of (sx _ _ ee)⟩, fun D2 hD2 => lc_tup (K := K) (a := ea) (xs := exs) (fun i Hy => Same Hx Hy ∧ Hy D2 = some (.lst ((((dealP ps n D).take i).map fun l => belowI l (q.2 + D)).map V.int))) ⟨same_upd hD2, upd_same⟩ (fun i Hy _ z => SqT.of (z.1 _ _ (sx _ _ ee))) ?_ ?_⟩
          · rintro i x' Hy hx' ⟨sy, ey⟩
            obtain ⟨d, hdm, od⟩ := od_at oe hx'
            rw [List.getElem?_map] at hdm
            obtain ⟨l, hlm, rfl⟩ := Option.map_eq_some_iff.mp hdm
            have hi := (List.getElem?_eq_some_iff.mp hlm).1
            have sxy := sx.trans sy
            refine ⟨rfl, ?_⟩
            unfold tYes
            dsimp only
            rw [if_pos rfl]
            refine ⟨_, rfl, _, rfl, b, _, 1, _, rfl, rfl, SqT.of (sxy _ _ eb), rfl, _, rfl, _, _, rfl, rfl, x', q.2 + D, l, rfl, od.same sxy, hdl l (List.mem_of_getElem? hlm), by omega, by omega, fun H12 s12 => ?_⟩
            refine ⟨_, s12 _ _ ey, by rw [List.length_map, List.length_map, List.length_take]; omega, same_into hD2 (sy.trans s12), ?_⟩
            rw [upd_same, List.take_add_one, hlm, List.map_append, List.map_append]
            rfl
          · rintro Hy ⟨sy, ey⟩
            rw [lex, List.take_length] at ey
            have sxy := sx.trans sy
            have hsum := sum_deal hg n1 d0 hany hqp
            refine ⟨D2, _, rfl, SqL.of ey, _, rfl, b, _, 0, _, rfl, rfl, SqT.of (sxy _ _ eb), rfl, _, _, rfl, rfl, _, rfl, ?_⟩
            rw [decide_eq_false (by omega)]
            refine iteF (next_of ?_)
            dsimp only
            refine ⟨_, rfl, by show 1 ≤ sizeLine; omega, fun c1 hc1 => ?_⟩
            have sc1 := same_upd (o := HO.tup [V.int 1]) hc1
            have e1 : upd Hy c1 (.tup [V.int 1]) c1 = some (.tup [V.int 1]) := upd_same
            have s13 := sxy.trans sc1
            generalize upd Hy c1 (.tup [V.int 1]) = H13 at *
            refine ⟨_, rfl, _, rfl, _, rfl, b, _, 1, _, rfl, rfl, SqT.of (s13 _ _ eb), rfl, .ref ea, D, q.2, dealP ps n D, rfl, .tup (s13 _ _ ee) (oe.same s13), by omega, fun l hl => ⟨hdl l hl, ?_⟩, d0, d24, by omega, by omega, fun z H14 tss ms s14 iz lt hrow hpw hperm hlm => ?_⟩
            · obtain ⟨i, _, rfl⟩ := List.mem_map.mp hl
              exact List.ne_nil_of_mem (share_mem hqp n D i)
            have s14' := s13.trans s14
            obtain ⟨m, rfl⟩ := Int.eq_ofNat_of_zero_le (show 0 ≤ n by omega)
            have hpol : Polite ps [1] ms := close_polite (n := m) (by omega) d0 hg (fun i hi => share_lm hg n1 d0 hany i) (by rw [lt, ldl, Int.toNat_natCast]) (fun i h => by
              have h2 : i < (dealP ps (m : Nat) D).length := by rw [← lt]; exact h
              have := hrow i h h2
              rw [deal_get] at this
              exact this) hpw hperm
            refine ⟨.ref sa, .ref c1, z, ps, [1], ms, rfl, .tup (s14' _ _ es) (os.same s14'), fun p hp => ⟨(hg.2 p hp).1, (hg.2 p hp).2.2.1, by have := (hg.2 p hp).2.2.2; omega⟩, .tup (s14 _ _ e1) (.cons (.int 1) .nil), Nat.zero_lt_one, iz.od, srt_of_pairwise hpw, hlm, fun H15 s15 => ?_⟩
            rw [first_none hpol]
            exact ⟨rfl, _, rfl, iteF ⟨s14'.trans s15, _, _, rfl⟩⟩
        · rintro σ Hx ⟨sx, v4, v8, rfl⟩
          exact k _ (m11.s sx)
end
end KP

set_option Elab.async false
set_option maxRecDepth 100000
set_option maxHeartbeats 4000000
set_option linter.all false
/-! Ours: the law's call where tables of code objects may grow, by a promise for calls where no repr is under way. -/
namespace Gr
open PySem PySem.Spec PyProof.Rows L2 GxR
/-- what is tracked at the law's call: the tables at ts, and the script where it is not written -/
def startH (ts : List Addr) (a : Addr) (o : Option HO) : Hp := fun b => if b ∈ ts then some (.tbl #[]) else if b = a then o else none
theorem startH_tab {ts : List Addr} {a b : Addr} {o : Option HO} (h : b ∈ ts) : startH ts a o b = some (.tbl #[]) := if_pos h
theorem startH_at {ts : List Addr} {a : Addr} {o : Option HO} (h : a ∉ ts) : startH ts a o a = o := (if_neg h).trans (if_pos rfl)
theorem startH_inv {ts : List Addr} {a b : Addr} {o : Option HO} {u : HO} (h : startH ts a o b = some u) : (b ∈ ts ∧ u = .tbl #[]) ∨ (b ∉ ts ∧ b = a ∧ o = some u) := by
  unfold startH at h
  by_cases h1 : b ∈ ts
  · rw [if_pos h1] at h
    exact .inl ⟨h1, (Option.some.inj h).symm⟩
  · rw [if_neg h1] at h
    by_cases h2 : b = a
    · rw [if_pos h2] at h
      exact .inr ⟨h1, h2, h⟩
    · rw [if_neg h2] at h
      cases h
abbrev tabO (more : Array Value) : Obj := { cls := .none, data := .fields more }
theorem law_callQT {P : Program} {w : World} {K : PySem.W.Frag} {mg mb : Str → Option Value} {k : Nat} {fa a : Addr} {cs : List (Addr × Addr)} {fd : FuncData} {x : Str} {sp : Sp} {z : Shared} {vs : List Value} {ns : List Int}
    (KX : K.In z.heap) (G : z.heap.Ns mainGlobals mg) (B : z.heap.Ns builtinsNs mb) (B2 : ∀ x : Str, x ≠ "__name__" → mb x = bootBuiltins x) (L : z.heap.NoLimit) (G0 : z.gens = #[])
    (hT : ∀ p ∈ cs, z.heap.get? p.2 = some (tabO #[])) (nT : ∀ p ∈ cs, K.lookup p.2 = none) (C : ∀ p ∈ cs, PySem.W.CodeHd z.heap p.1 p.2)
    (M : ∃ (bm : Addr) (ob : Obj), mg "__builtins__" = some (.ref bm) ∧ bm ≠ builtinsNs ∧ z.heap.get? bm = some ob ∧ ob.cls = .type "module" ∧ ob.dict = some builtinsNs ∧ ob.data = .plain)
    (ha : z.heap.get? a = some { cls := .type "list", data := .seq vs.toArray }) (hi : IntsAre vs ns) (hl : ns.length ≤ sizeLine) (hr : Room k callerA)
    (F : ∀ base : Heap, K.In base → base.Ns mainGlobals mg → (∀ p ∈ cs, TabB base mg p.1 p.2) → FnQ P w K mg base CX0 k fa fd [x] sp) (hb : ∀ (s : Shared) (u : Value), BindsTo s fd ⟨[u], []⟩ [(x, u)])
    (hsp : ∀ H : Hp, (∀ p ∈ cs, H p.2 = some (.tbl #[])) → SqL K H a (ns.map V.int) → sp [.ref a] H (fun v _ => v = .bl true) fun _ _ _ => False) :
    codeAny (model P w) callerA (.call (.ref fa) ⟨[.ref a], []⟩) (fun r s' => r = .ok (.ret (.bool true)) ∧ OldK z.heap s'.heap ∧ s'.os = z.os ∧ AllBare s'.gens) z := by
  generalize hts : cs.map (·.2) = ts
  have inT : ∀ p ∈ cs, p.2 ∈ ts := fun p hp => by rw [← hts]; exact List.mem_map.mpr ⟨p, hp, rfl⟩
  have ofT : ∀ b ∈ ts, ∃ p ∈ cs, p.2 = b := fun b hb => by rw [← hts] at hb; exact List.mem_map.mp hb
  have atT : ∀ b ∈ ts, z.heap.get? b = some (tabO #[]) := fun b hb => by obtain ⟨p, hp, e⟩ := ofT b hb; rw [← e]; exact hT p hp
  have rv := vals_ints hi
  have lenV := hi.length
  have aT : a ∉ ts := fun q => by
    have e := ha.symm.trans (atT a q)
    cases e
  -- in both ways the script may stand: written, or tracked
  have core : ∀ o : Option HO, (o = none ∨ o = some (.frz { cls := .type "list", data := .seq vs.toArray } (.lst (ns.map V.int)))) → (o ≠ none → K.lookup a = none) → SqL K (startH ts a o) a (ns.map V.int) →
      codeAny (model P w) callerA (.call (.ref fa) ⟨[.ref a], []⟩) (fun r s' => r = .ok (.ret (.bool true)) ∧ OldK z.heap s'.heap ∧ s'.os = z.os ∧ AllBare s'.gens) z := by
    intro o ho hK hS
    generalize hH : startH ts a o = H at hS
    have tab : ∀ b ∈ ts, H b = some (.tbl #[]) := fun b q => by rw [← hH]; exact startH_tab q
    have inv : ∀ {b : Addr} {u : HO}, H b = some u → (b ∈ ts ∧ u = .tbl #[]) ∨ (b ∉ ts ∧ b = a ∧ u = .frz { cls := .type "list", data := .seq vs.toArray } (.lst (ns.map V.int)) ∧ K.lookup a = none) := fun {b u} e => by
      rw [← hH] at e
      rcases startH_inv e with q | ⟨q1, q2, q3⟩
      · exact .inl q
      · rcases ho with e1 | e1
        · rw [e1] at q3; cases q3
        · rw [e1] at q3
          exact .inr ⟨q1, q2, (Option.some.inj q3).symm, hK (by rw [e1]; exact fun q => nomatch q)⟩
    have hok : HOk P w H z.heap := fun b u e => by
      rcases inv e with ⟨q, rfl⟩ | ⟨_, rfl, rfl, _⟩
      · exact atT b q
      · exact ⟨ha, by rw [List.length_map]; exact hl, vs, _, rv, ha⟩
    -- what is neither a list nor an empty table is seen in the base
    have seen : ∀ {b : Addr} {ob : Obj}, z.heap.get? b = some ob → (∀ us n, ob.data ≠ .seq us n) → ob.data ≠ .fields #[] → (hidT z.heap H).get? b = some ob := fun {b ob} e h1 h2 => hidT_get e (by
      cases q : H b with
      | none => rfl
      | some u =>
        rcases inv q with ⟨q1, _⟩ | ⟨_, rfl, _, _⟩
        · rw [atT b q1] at e
          cases e
          exact absurd rfl h2
        · rw [ha] at e
          cases e
          exact absurd rfl (h1 _ _))
    have seenD : ∀ {b : Addr} {m : Str → Option Value}, z.heap.Ns b m → (hidT z.heap H).Ns b m := fun {b m} ⟨ob, es, ep, e, d, r⟩ =>
      ⟨ob, es, ep, seen e (fun us n q => by rw [d] at q; cases q) (fun q => by rw [d] at q; cases q), d, r⟩
    have KB : K.In (hidT z.heap H) := fun b ob e => hidT_get (KX b ob e) (by
      cases q : H b with
      | none => rfl
      | some u =>
        rcases inv q with ⟨q1, _⟩ | ⟨_, rfl, _, q2⟩
        · obtain ⟨p, hp, ep⟩ := ofT b q1
          rw [← ep, nT p hp] at e
          cases e
        · rw [q2] at e
          cases e)
    have MB : Mod K mg (hidT z.heap H) := ⟨KB, seenD G, ⟨mb, seenD B, B2⟩, let ⟨mc, h1, h2⟩ := L; ⟨mc, seenD h1, h2⟩⟩
    have TB : ∀ p ∈ cs, TabB (hidT z.heap H) mg p.1 p.2 := fun p hp => by
      refine ⟨?_, ?_, fun q => ?_⟩
      · obtain ⟨ob, us, file, tf, flags, tg, inF, text, tt, e1, r1, r2, r3, rest⟩ := C p hp
        refine ⟨ob, us, file, tf, flags, tg, inF, text, tt, seen e1 (fun us' n q => by rw [r2] at q; cases q) (fun q => ?_), r1, r2, r3, rest⟩
        rw [r2] at q
        cases q
        cases r3
      · obtain ⟨bm, ob, b1, b2, b3, b4, b5, b6⟩ := M
        refine ⟨bm, ob, b1, b2, fun q => ?_, fun q => ?_, seen b3 (fun us n q => by rw [b6] at q; cases q) (fun q => by rw [b6] at q; cases q), b4, b5, b6⟩
        · obtain ⟨ob', es, ep, e, hd, _⟩ := G
          rw [q, e] at b3
          cases b3
          rw [hd] at b6
          cases b6
        · rw [q, hT p hp] at b3
          cases b3
          cases b6
      · obtain ⟨ob, es, ep, e, hd, _⟩ := G
        rw [q, hT p hp] at e
        cases e
        cases hd
    have nofr : ∀ b, b ∉ frs ([] : List Env) := fun b q => nomatch q
    have e0 : Env0 P w K mg (hidT z.heap H) callerA [] z H := ⟨rfl, MB, fun b ob e => of_hidT e, Nat.le_of_eq (hidT_size _ _), trivial, fun b q => absurd q (nofr b), hok, .of_eq G0⟩
    refine codeAny_mono ((F _ KB (seenD G) TB).run callerA [] z H ⟨[.ref a], []⟩ [.ref a] [.ref a] _ _ rfl hr e0 (hb z (.ref a)) (.cons rfl .nil) (hsp H (fun p hp => tab _ (inT p hp)) hS)) fun r s' h => ?_
    match r, h with
    | .error e, h => exact False.elim h
    | .ok (.ret u), h =>
      obtain ⟨v, H', os, bare, un, hok', r', q⟩ := h
      have q' : v = .bl true := q
      subst q'
      obtain rfl : u = Value.bool true := r'
      have kept : ∀ b ob, b ∉ ts → z.heap.get? b = some ob → s'.heap.get? b = some ob := fun b ob nb e => by
        cases q : H b with
        | none => exact un.keep b ob e q (nofr b) (fun q => nomatch q)
        | some u =>
          rcases inv q with ⟨q1, _⟩ | ⟨_, _, rfl, _⟩
          · exact absurd q1 nb
          · have e1 := (hok b _ q).1
            have e2 := (hok' b _ (un.frzs b _ _ q)).1
            exact e2.trans (e1.symm.trans e)
      have more : ∀ b ∈ ts, ∃ m : Array Value, s'.heap.get? b = some (tabO m) := fun b q => by
        obtain ⟨m, e⟩ := un.tbls b #[] (tab b q)
        exact ⟨_, hok' b _ e⟩
      refine ⟨rfl, ⟨fun b ob e => ?_, fun b ob e => ?_⟩, os, bare⟩
      · by_cases hbt : b ∈ ts
        · obtain ⟨p, hp, rfl⟩ := ofT b hbt
          obtain ⟨m, e2⟩ := more _ hbt
          rw [hT p hp] at e
          cases e
          exact .inr (.inl ⟨((C p hp).tab (hT p hp)).isCodeTable, rfl, #[], m, rfl, by rw [Array.empty_append]; exact e2⟩)
        · exact .inl (kept b ob hbt e)
      · by_cases hbt : b ∈ ts
        · exact (more b hbt).elim fun m e2 => ⟨_, e2⟩
        · exact ⟨ob, kept b ob hbt e⟩
  cases hk : K.lookup a with
  | some ob =>
    have e := KX a ob hk
    rw [ha] at e
    cases e
    exact core none (.inl rfl) (fun q => absurd rfl q) (.inr ⟨_, vs.toArray, _, hk, rfl, rfl, rfl, by rw [List.size_toArray, lenV]; exact hl, by simpa using rv⟩)
  | none => exact core _ (.inr rfl) (fun _ => hk) (.inl (.inr ⟨_, startH_at aT⟩))
/-- what the head leaves, from such a promise -/
theorem walk_ofQT {l : PySem.W.OpenLaw} {n k : Nat} {q : Program} {loose : List Str} {XP : (Str → Option Value) → Heap → Prop} {YP : World → Heap → Prop} {d : DefRec} {K : Params → PySem.W.Frag} {x : Str}
    (hn : l.most = some n) (hn2 : n ≤ sizeLine) (hdf : d.params.defaults = []) (hr : Room k callerA) (hY : ∀ (w : World) (h : Heap), YP w h → (K w.params).In h)
    (F : ∀ (w : World) (mg : Str → Option Value) (fa : Addr) (h : Heap), YP w h → (K w.params).In h → h.Ns mainGlobals mg → mg d.name = some (.ref fa) →
      ∃ (fd : FuncData) (cs : List (Addr × Addr)) (sp : Sp), (∀ p ∈ cs, h.get? p.2 = some (tabO #[])) ∧ (∀ p ∈ cs, (K w.params).lookup p.2 = none) ∧ (∀ p ∈ cs, PySem.W.CodeHd h p.1 p.2) ∧ (∀ (s : Shared) (u : Value), BindsTo s fd ⟨[u], []⟩ [(x, u)]) ∧
        (∀ (H : Hp) (a : Addr) (ns : List Int), ns.length ≤ n → (∀ p ∈ cs, H p.2 = some (.tbl #[])) → SqL (K w.params) H a (ns.map V.int) → sp [.ref a] H (fun v _ => v = .bl true) fun _ _ _ => False) ∧
        ∀ base : Heap, (K w.params).In base → base.Ns mainGlobals mg → (∀ p ∈ cs, TabB base mg p.1 p.2) → FnQ l.prog w (K w.params) mg base CX0 k fa fd [x] sp) :
    PySem.W.WalkO q loose XP YP l.row.toRowW d [] (fun f vs => PySem.call f vs) := by
  refine Att.attach_call hn hdf fun w _ z mg _ fa _ _ _ _ a vs ns G Y _ _ _ hmg hobj hints hlen hg => ?_
  have KX := hY w _ Y
  obtain ⟨fd, cs, sp, hT, nT, C, hb, hsp, hF⟩ := F w mg fa _ Y KX G.T.g hmg
  exact law_callQT KX G.T.g G.T.b G.T.builtins G.T.nolimit hg hT nT C G.T.bmain hobj hints (Nat.le_trans hlen hn2) hr hF hb fun H hH hS => hsp H a ns hlen hH hS
end Gr

set_option Elab.async false
set_option maxRecDepth 100000
set_option maxHeartbeats 4000000
set_option linter.all false
/-! Ours: the greatest number of crawlers; the law. -/
namespace KP
open PySem PySem.Spec PyProof.Rows L2 Gr GxR
theorem below_pos {ms : List (Int × Int)} (g : Lm ms) {n : Int} (n1 : 1 ≤ n) (n2 : n ≤ 100) : 1 ≤ belowI ms n ∧ belowI ms n ≤ 606 := by
  unfold belowI
  by_cases z : ms = []
  · rw [if_pos z]; decide
  · rw [if_neg z]
    obtain ⟨h, l⟩ := mw_spec z g (n := n) (by omega)
    have := mw_pos z (fun p hp => (g.2 p hp).1) n1 h
    omega
theorem small_bool (b : Bool) : SmallD 2 11 (.bool b) := by
  cases b <;> exact ⟨rfl, by decide +kernel, by decide +kernel⟩
theorem rep_tt {K : PySem.W.Frag} {H : Hp} {a : Addr} {x : V} {n : Nat} {Q : VK} (hn : n ≤ 1000) (ha : H a = some (.tup [x])) (k : ∀ p H', Same H H' → H' p = some (.tup (List.replicate n x)) → Q (.ref p) H') : rRepA K (.ref a) (.int (n : Nat)) H Q := by
  have fl : ∀ m : Nat, (List.replicate m [x]).flatten = List.replicate m x := fun m => by
    induction m with
    | zero => rfl
    | succ m ih => rw [List.replicate_succ, List.flatten_cons, ih, List.replicate_succ]; rfl
  refine ⟨a, (n : Nat), [x], rfl, rfl, SqT.of ha, List.cons_ne_nil _ _, by omega, by omega, by show 1 ≤ 1000; decide, fun z => ?_, fun _ p hp => ?_⟩
  · have : n = 1 := by omega
    subst this
    exact k a H (.refl _) ha
  · refine k p _ (same_upd hp) ?_
    rw [upd_same, Int.toNat_natCast, fl]
/-- so many alike crawlers keep the limits -/
theorem keep_rep {ms ps : List (Int × Int)} (gm : Lm ms) (g : Lm ps) {D u : Int} (d0 : 0 ≤ D) (d24 : D ≤ 24) (hps : ps ≠ []) {k : Nat} (k1 : 1 ≤ k) (k6 : k ≤ 6) (hle : ∀ q ∈ ps, u ≤ q.1 / belowI ms (q.2 + D)) (hor : u = 6 ∨ ∃ q ∈ ps, u = q.1 / belowI ms (q.2 + D)) : keepB (List.replicate k (ms, D)) ps = decide ((k : Int) ≤ u) := by
  have pb : ∀ q ∈ ps, pairB (List.replicate k (ms, D)) q = (!ms.isEmpty && decide ((k : Int) * ((mw ms (q.2 + D) : Nat) : Int) ≤ q.1)) := fun q hq => by
    unfold pairB
    congr 1
    · cases hk : k with
      | zero => omega
      | succ j =>
        rw [List.any_replicate, if_neg (by omega)]
    · congr 1
      rw [List.map_replicate]
      have : ∀ j : Nat, (List.replicate j ((mw ms (q.2 + D) : Nat) : Int)).sum = (j : Int) * ((mw ms (q.2 + D) : Nat) : Int) := fun j => by
        induction j with
        | zero => simp
        | succ j ih => rw [List.replicate_succ, List.sum_cons, ih, Int.natCast_add, Int.add_mul]; simp; omega
      show ((List.replicate k ((mw ms (q.2 + D) : Nat) : Int)).sum ≤ q.1) = _
      rw [this]
  by_cases zm : ms = []
  · subst zm
    have e1 : keepB (List.replicate k (([] : List (Int × Int)), D)) ps = false := by
      obtain ⟨q, l, rfl⟩ := List.exists_cons_of_ne_nil hps
      unfold keepB
      rw [List.all_cons, pb q List.mem_cons_self]
      rfl
    rw [e1]
    obtain ⟨q, l, rfl⟩ := List.exists_cons_of_ne_nil hps
    have a := hle q List.mem_cons_self
    have b := g.2 q List.mem_cons_self
    have e : belowI [] (q.2 + D) = 99 := rfl
    rw [e] at a
    have : q.1 / 99 = 0 := Int.ediv_eq_zero_of_lt (by omega) (by omega)
    rw [decide_eq_false (by omega)]
  · have me : ms.isEmpty = false := by cases h : ms with | nil => exact absurd h zm | cons a l => rfl
    have bel : ∀ q ∈ ps, belowI ms (q.2 + D) = ((mw ms (q.2 + D) : Nat) : Int) ∧ 1 ≤ ((mw ms (q.2 + D) : Nat) : Int) := fun q hq => by
      have b := g.2 q hq
      have := below_pos gm (n := q.2 + D) (by omega) (by omega)
      have e : belowI ms (q.2 + D) = ((mw ms (q.2 + D) : Nat) : Int) := if_neg zm
      exact ⟨e, by rw [← e]; exact this.1⟩
    have iff : ∀ q ∈ ps, ((k : Int) * ((mw ms (q.2 + D) : Nat) : Int) ≤ q.1 ↔ (k : Int) ≤ q.1 / belowI ms (q.2 + D)) := fun q hq => by
      obtain ⟨e, p⟩ := bel q hq
      rw [e]
      exact (Int.le_ediv_iff_mul_le (by omega)).symm
    rw [Bool.eq_iff_iff, decide_eq_true_eq]
    unfold keepB
    rw [List.all_eq_true]
    constructor
    · intro h
      rcases hor with e | ⟨q, hq, e⟩
      · omega
      · have := h q hq
        rw [pb q hq, Bool.and_eq_true, decide_eq_true_eq] at this
        rw [e]
        exact (iff q hq).mp this.2
    · intro h q hq
      rw [pb q hq, me, Bool.not_false, Bool.true_and, decide_eq_true_eq]
      exact (iff q hq).mpr (Int.le_trans h (hle q hq))
section
variable {P : Program} {w : World} {K : PySem.W.Frag} {mg : Str → Option Value} {base : Heap} {C : Addr}
theorem sc_gright : FnScope ["_law_well_here", "_law_one_here", "_law_shares", "_law_delay", "_law_told", "_law_due_here", "_law_pair", "_law_number"] ["_law_well_here"] (defScope s_l_greatest_right) := ⟨rfl, rfl, rfl, by decide +kernel, rfl, by decide +kernel, by decide +kernel⟩
theorem ok_gright (T : D K mg) (TB : Tabs base T) (hM : SysM K) : FnQ P w K mg base CX0 9 T.f_l_greatest_right T.d_l_greatest_right ["_law_well_here"] (spRight T) := by
  refine funQ T.U_l_greatest_right sc_gright (fun vs H Q E h => ?_) (fun cdv A outer s H vs Q E hgu hr h => ?_)
  · obtain ⟨p, rfl, _⟩ := h
    rfl
  · obtain ⟨p, rfl, hp, hT, k⟩ := h
    have nd := sc_gright.nd
    have hu64 : (A.deeper (envOfC "_law_greatest_right" (defScope s_l_greatest_right) s.heap.objs.size T.f_l_greatest_right cdv)).units + 64 < cLine := hr.units
    have mz : 5000 ≤ sizeLine := by decide
    refine ⟨_, pss_cons (ps_set (i := 1) nd rfl (.inl rfl) (pe_call (ok_slim T) (hr.mono (by decide)) rfl T.g_l_some_limits T.U_l_some_limits.kp T.b_l_some_limits .nil pass0 (pa_cons (pv 0) (pa_cons (pe_call (ok_l_one T) (hr.mono (by decide)) rfl T.g_l_one T.U_l_one.kp T.b_l_one .nil pass0 (pa_cons (pv 0) (pa_cons (pe_lst (pa_cons pe_int (pa_cons pe_int (pa_cons pe_int (pa_cons pe_int pa_nil))))) pa_nil))) (pa_cons (pe_call (ok_l_one T) (hr.mono (by decide)) rfl T.g_l_one T.U_l_one.kp T.b_l_one .nil pass0 (pa_cons (pv 0) (pa_cons (pe_lst (pa_cons pe_int (pa_cons pe_int (pa_cons pe_int pa_nil)))) pa_nil))) pa_nil)))))
      (pss_cons (ps_par (i := 2) (j := 3) (by rfl) nd rfl rfl (by decide) rfl rfl (pa_cons (pe_call (ok_slim T) (hr.mono (by decide)) rfl T.g_l_some_limits T.U_l_some_limits.kp T.b_l_some_limits .nil pass0 (pa_cons (pv 0) (pa_cons pe_int (pa_cons (pe_call (ok_l_one T) (hr.mono (by decide)) rfl T.g_l_one T.U_l_one.kp T.b_l_one .nil pass0 (pa_cons (pv 0) (pa_cons (pe_lst (pa_cons pe_int (pa_cons pe_int pa_nil))) pa_nil))) pa_nil)))) (pa_cons (pe_call (ok_l_one T) (hr.mono (by decide)) rfl T.g_l_one T.U_l_one.kp T.b_l_one .nil pass0 (pa_cons (pv 0) (pa_cons (pe_lst (pa_cons pe_int (pa_cons pe_int (pa_cons pe_int (pa_cons pe_int (pa_cons pe_int pa_nil)))))) pa_nil))) pa_nil)) (by rfl))
      (pss_cons (ps_set (i := 4) nd rfl (.inl rfl) (pe_call (ok_mc T TB) hr rfl T.g_most_crawlers T.U_most_crawlers.kp T.b_most_crawlers .nil pass0 (pa_cons (pv 1) (pa_cons (pv 3) (pa_cons (pv 2) pa_nil)))))
      (pss_cons (ps_if (pt_cmpR (op_eqD hu64) (pv 2) (pe_tup pa_nil) (nomark _))
        (pss_one (ps_ret (pe_and (pe_cmpR op_isN (pv 4) pe_non (nomark _)) (pe_one (pe_cmpR op_eq (pe_callB (call_reprD hgu hu64 hM) (by rfl) T.repr (by decide +kernel) (pa_cons (pe_call (ok_keep T TB) hr rfl T.g_keep T.U_keep.kp T.b_keep .nil pass0 (pa_cons (pe_op op_repA (pe_tup (pa_cons (pe_tup (pa_cons (pv 1) (pa_cons (pv 3) pa_nil))) pa_nil)) pe_int) (pa_cons (pe_tup pa_nil) pa_nil))) pa_nil)) pe_str (nomark _))))))
        (pss_nil))
      (pss_cons (ps_set (i := 5) nd rfl (.inl rfl) pe_int)
      (pss_cons (ps_for PassesOwn.never rfl (pi_tup (pv 2)) (pg_name (i := 6) nd rfl (.inl rfl))
        (pss_one (ps_set (i := 5) nd rfl (.inl rfl) (pe_callB (call_min2 rfl) (by rfl) T.min boot_min (pa_cons (pv 5) (pa_cons (pe_op op_fdivN (pe_ix ix_tup (pv 6) pe_int (fun _ _ => rfl)) (pe_call (ok_below T) (hr.mono (by decide)) rfl T.g_l_below T.U_l_below.kp T.b_l_below .nil pass0 (pa_cons (pv 1) (pa_cons (pe_op op_add (pe_ix ix_tup (pv 6) pe_int (fun _ _ => rfl)) (pv 3)) pa_nil)))) pa_nil))))))
      (pss_cons (ps_if (pt_cmpR op_ne (pe_callB (call_reprD hgu hu64 hM) (by rfl) T.repr (by decide +kernel) (pa_cons (pv 4) pa_nil)) (pe_callB (call_reprD hgu hu64 hM) (by rfl) T.repr (by decide +kernel) (pa_cons (pv 5) pa_nil)) (nomark _))
        (pss_one (ps_ret pe_bl))
        (pss_nil))
      (pss_cons (ps_for PassesOwn.never rfl (pi_range2 rfl T.range (pa_cons pe_int (pa_cons pe_int pa_nil))) (pg_name (i := 7) nd rfl (.inl rfl))
        (pss_one (ps_if (pt_cmpR op_ne (pe_callB (call_reprD hgu hu64 hM) (by rfl) T.repr (by decide +kernel) (pa_cons (pe_call (ok_keep T TB) hr rfl T.g_keep T.U_keep.kp T.b_keep .nil pass0 (pa_cons (pe_op op_repA (pe_tup (pa_cons (pe_tup (pa_cons (pv 1) (pa_cons (pv 3) pa_nil))) pa_nil)) (pv 7)) (pa_cons (pv 2) pa_nil))) pa_nil)) (pe_callB (call_reprD hgu hu64 hM) (by rfl) T.repr (by decide +kernel) (pa_cons (pe_cmpR op_le (pv 7) (pv 5) (nomark _)) pa_nil)) (nomark _))
          (pss_one (ps_ret pe_bl))
          (pss_nil))))
      (pss_one (ps_ret pe_bl))))))))), ?_⟩
    -- the draws
    refine ⟨_, rfl, _, rfl, by show 4 ≤ sizeLine; omega, fun q0 hq0 => ?_⟩
    have s0 := same_upd (o := HO.lst [V.int 1, V.int 1, V.int 2, V.int 6]) hq0
    refine ⟨p, q0, _, rfl, hp.same s0, upd_same, well_ne hp hq0, by decide, by decide, fun i0 v0 H0 hv0 w0 b0 => ?_⟩
    obtain ⟨tp, rfl, tp0, tp6⟩ : ∃ n : Int, v0 = .int n ∧ 0 < n ∧ n ≤ 6 := by
      have hm := List.mem_of_getElem? hv0
      simp only [List.mem_cons, List.not_mem_nil, or_false] at hm
      rcases hm with rfl | rfl | rfl | rfl <;> exact ⟨_, rfl, by decide, by decide⟩
    have m0 := Mv.but hp hT ((But.same' s0).trans b0) w0
    refine ⟨_, rfl, by show 3 ≤ sizeLine; omega, fun q1 hq1 => ?_⟩
    have s1 := same_upd (o := HO.lst [V.int 4, V.int 12, V.int 12]) hq1
    refine ⟨p, q1, _, rfl, w0.same s1, upd_same, well_ne w0 hq1, by decide, by decide, fun i1 v1 H1 hv1 w1 b1 => ?_⟩
    obtain ⟨wd, rfl, wd0, wd12⟩ : ∃ n : Int, v1 = .int n ∧ 0 < n ∧ n ≤ 12 := by
      have hm := List.mem_of_getElem? hv1
      simp only [List.mem_cons, List.not_mem_nil, or_false] at hm
      rcases hm with rfl | rfl | rfl <;> exact ⟨_, rfl, by decide, by decide⟩
    have m1 := (m0.s s1).b b1 w1
    refine ⟨p, tp, wd, rfl, w1, tp0, tp6, wd0, wd12, fun lv dl H2 b2 w2 o2 c2 => gn ?_⟩
    obtain ⟨ms, rfl, gm⟩ := rowD_lim c2
    have m2 := m1.b b2 w2
    have oL := vis o2
    clear m0 m1 s0 s1 b0 b1 b2 hq0 hq1 hv0 hv1 w0 w1 o2 c2
    refine ⟨_, rfl, _, rfl, by show 2 ≤ sizeLine; omega, fun q2 hq2 => ?_⟩
    have s3 := same_upd (o := HO.lst [V.int 3, V.int 12]) hq2
    refine ⟨p, q2, _, rfl, w2.same s3, upd_same, well_ne w2 hq2, by decide, by decide, fun i3 v3 H3 hv3 w3 b3 => ?_⟩
    obtain ⟨wd2, rfl, wd20, wd212⟩ : ∃ n : Int, v3 = .int n ∧ 0 < n ∧ n ≤ 12 := by
      have hm := List.mem_of_getElem? hv3
      simp only [List.mem_cons, List.not_mem_nil, or_false] at hm
      rcases hm with rfl | rfl <;> exact ⟨_, rfl, by decide, by decide⟩
    have m3 := (m2.s s3).b b3 w3
    replace oL := oL.ts ((same_ts s3).trans (but_ts (w2.same s3) b3)) (tup_lim ms)
    refine ⟨p, 6, wd2, rfl, w3, by decide, by decide, wd20, wd212, fun sv dl H4 b4 w4 o4 c4 => ?_⟩
    obtain ⟨ps, rfl, hg⟩ := rowD_lim c4
    have m4 := m3.b b4 w4
    have oS := vis o4
    replace oL := oL.ts (but_ts w3 b4) (tup_lim ms)
    refine ⟨_, rfl, by show 5 ≤ sizeLine; omega, fun q5 hq5 => ?_⟩
    have s5 := same_upd (o := HO.lst [V.int 0, V.int 0, V.int 1, V.int 3, V.int 24]) hq5
    refine ⟨p, q5, _, rfl, w4.same s5, upd_same, well_ne w4 hq5, by decide, by decide, fun i5 v5 H5 hv5 w5 b5 => ?_⟩
    obtain ⟨D, rfl, d0, d24⟩ : ∃ n : Int, v5 = .int n ∧ 0 ≤ n ∧ n ≤ 24 := by
      have hm := List.mem_of_getElem? hv5
      simp only [List.mem_cons, List.not_mem_nil, or_false] at hm
      rcases hm with rfl | rfl | rfl | rfl | rfl <;> exact ⟨_, rfl, by decide, by decide⟩
    have m5 := (m4.s s5).b b5 w5
    have t45 := (same_ts s5).trans (but_ts (w4.same s5) b5)
    replace oL := oL.ts t45 (tup_lim ms)
    replace oS := oS.ts t45 (tup_lim ps)
    clear m2 m3 m4 s3 s5 b3 b4 b5 hq2 hq5 hv3 hv5 w2 w3 w4 o4 c4 t45
    refine ⟨_, _, rfl, ?_⟩
    dsimp only
    -- told: by cut
    refine cut1 (fun σ' H' => ∃ tv : V, ((ps = [] ∧ tv = .non) ∨ (ps ≠ [] ∧ ∃ u : Int, tv = .int u ∧ (∀ q ∈ ps, u ≤ q.1 / belowI ms (q.2 + D)) ∧ ∃ q ∈ ps, u = q.1 / belowI ms (q.2 + D))) ∧ Od H' lv (limP ms) ∧ Od H' sv (limP ps) ∧ Mv T p H H' ∧ σ' = [some (.ref p), some lv, some sv, some (.int D), some tv, none, none, none]) (fun N hN => ?_) ?_
    · refine ⟨_, rfl, _, rfl, _, rfl, lv, sv, D, ms, ps, rfl, oL, gm, d0, d24, oS, hg, m5.2.2, fun z H6 u6 => gn ?_, fun z z2 H6 u6 => gn ?_, fun z z2 m H6 hm hle u6 => gn ?_⟩
      · have t6 := stay_ts (u6.stay m5.2.2)
        exact hN _ _ ⟨.non, .inl ⟨z, rfl⟩, oL.ts t6 (tup_lim ms), oS.ts t6 (tup_lim ps), m5.u u6, rfl⟩
      · have t6 := stay_ts (u6.stay m5.2.2)
        refine hN _ _ ⟨.int 0, .inr ⟨z, 0, rfl, fun q hq => ?_, ?_⟩, oL.ts t6 (tup_lim ms), oS.ts t6 (tup_lim ps), m5.u u6, rfl⟩
        · have b := hg.2 q hq
          exact Int.ediv_nonneg (by omega) (by have := below_pos gm (n := q.2 + D) (by omega) (by omega); omega)
        · obtain ⟨q, l, rfl⟩ := List.exists_cons_of_ne_nil z
          refine ⟨q, List.mem_cons_self, ?_⟩
          have b := hg.2 q List.mem_cons_self
          subst z2
          show 0 = q.1 / 99
          exact (Int.ediv_eq_zero_of_lt (by omega) (by omega)).symm
      · have t6 := stay_ts (u6.stay m5.2.2)
        have eb : ∀ q : Int × Int, ((mw ms (q.2 + D) : Nat) : Int) = belowI ms (q.2 + D) := fun q => (if_neg z2).symm
        simp only [eb] at hm hle
        obtain ⟨q, hq, rfl⟩ := List.mem_map.mp hm
        exact hN _ _ ⟨_, .inr ⟨z, _, rfl, fun q' hq' => hle _ (List.mem_map.mpr ⟨q', hq', rfl⟩), q, hq, rfl⟩, oL.ts t6 (tup_lim ms), oS.ts t6 (tup_lim ps), m5.u u6, rfl⟩
    clear oL oS m5 w5
    rintro σ' H6 ⟨tv, htv, oL, oS, m6, rfl⟩
    refine ⟨_, rfl, by show 0 ≤ sizeLine; omega, fun c1 hc1 => ?_⟩
    have s7 := same_upd (o := HO.tup []) hc1
    have m7 := m6.s s7
    replace oL := oL.same s7
    replace oS := oS.same s7
    refine ⟨_, .tuple [], oS.dp (tup_lim ps), .tup (SqT.of upd_same) .nil, (shp_lim ps).ok, rfl, _, rfl, ?_⟩
    rw [eqv_nilT, lim_emp]
    generalize upd H6 c1 (.tup []) = H7 at *
    clear s7 hc1 m6
    have partT : ∀ (H' : Hp) (t1 t2 : Addr) (k : Nat), Od H' lv (limP ms) → H' t1 = some (.tup [lv, .int D]) → H' t2 = some (.tup (List.replicate k (V.ref t1))) → Od H' (.ref t2) (.tuple ((List.replicate k (ms, D)).map partP)) := fun H' t1 t2 k o e1 e2 => by
      refine .tup e2 ?_
      clear e2
      induction k with
      | zero => exact .nil
      | succ k ih =>
        rw [List.replicate_succ, List.replicate_succ, List.map_cons]
        exact .cons (.tup e1 (.cons o (.cons (.int _) .nil))) ih
    rcases htv with ⟨zp, rfl⟩ | ⟨zp, u, rfl, hle, hex⟩
    · subst zp
      refine iteT ?_
      refine ⟨_, rfl, rfl, true, rfl, iteT ?_⟩
      refine ⟨_, rfl, _, rfl, by show 2 ≤ sizeLine; omega, fun t1 ht1 => ?_⟩
      have s8 := same_upd (o := HO.tup [lv, V.int D]) ht1
      refine ⟨by show 1 ≤ sizeLine; omega, fun t2 ht2 => ?_⟩
      have s9 := same_upd (o := HO.tup [V.ref t1]) ht2
      dsimp only [tC]
      refine rep_tt (n := 5) (by decide) upd_same fun t3 H10 s10 e3 => ?_
      refine ⟨by show 0 ≤ sizeLine; omega, fun t4 ht4 => ?_⟩
      have s11 := same_upd (o := HO.tup []) ht4
      have m11 := (((m7.s s8).s s9).s s10).s s11
      replace e3 := s11 _ _ e3
      have e1 := s11 _ _ (s10 _ _ (s9 _ _ (show upd H7 t1 (.tup [lv, V.int D]) t1 = some (.tup [lv, V.int D]) from upd_same)))
      refine ⟨.ref t3, .ref t4, List.replicate 5 (ms, D), [], rfl, partT _ _ _ 5 (oL.same (s8.trans (s9.trans (s10.trans s11)))) e1 e3, by rw [List.length_replicate]; decide, by rw [List.length_replicate]; decide, fun c hc => ?_, .tup upd_same .nil, ⟨Nat.zero_le _, fun _ h => nomatch h⟩, m11.2.2, fun H12 u12 => ?_⟩
      · rw [(List.mem_replicate.mp hc).2]
        exact ⟨gm, d0, d24⟩
      refine ⟨_, .bool true, rfl, .bl _, rfl, by decide +kernel, by decide +kernel, rfl, ?_⟩
      rw [show (PyData.bool true).shown = "True" from by decide +kernel, decide_eq_true rfl]
      exact k _ (m11.u u12)
    · rw [show ps.isEmpty = false from by cases h : ps with | nil => exact absurd h zp | cons a l => rfl]
      refine iteF (next_of ?_)
      dsimp only
      refine gn ?_
      obtain ⟨sa, ss, rfl, es, os⟩ := od_tup oS
      have lss : ss.length = ps.length := by rw [os.len, List.length_map, List.length_map]
      refine ⟨_, rfl, sa, rfl, ⟨_, SqT.of es⟩, for_tup (K := K) (a := sa) (xs := ss) (fun j σ Hx => Same H7 Hx ∧ ∃ (d : Int) (v6 : Option V), d ≤ 6 ∧ (∀ m (hm : m < ps.length), m < j → d ≤ ps[m].1 / belowI ms (ps[m].2 + D)) ∧ (d = 6 ∨ ∃ q ∈ ps, d = q.1 / belowI ms (q.2 + D)) ∧ σ = [some (.ref p), some lv, some (.ref sa), some (.int D), some (.int u), some (.int d), v6, none]) ⟨.refl _, 6, none, Int.le_refl _, fun _ _ h => absurd h (Nat.not_lt_zero _), .inl rfl, rfl⟩ (fun j σ Hx _ q => SqT.of (q.1 _ _ es)) ?_ ?_⟩
      · rintro j x σ Hx hx ⟨sx, d, v6, d6, hd, hor, rfl⟩
        obtain ⟨q, b, hqm, rfl, eb⟩ := pair_at os hx
        obtain ⟨hj, hje⟩ := List.getElem?_eq_some_iff.mp hqm
        have hqp := List.mem_of_getElem? hqm
        have hq := hg.2 q hqp
        obtain ⟨bp1, bp2⟩ := below_pos gm (n := q.2 + D) (by omega) (by omega)
        refine gn ?_
        refine ⟨_, rfl, _, rfl, b, _, 0, _, rfl, rfl, SqT.of (sx _ _ eb), rfl, _, rfl, _, rfl, b, _, 1, _, rfl, rfl, SqT.of (sx _ _ eb), rfl, _, rfl, _, _, rfl, rfl, lv, q.2 + D, ms, rfl, oL.same sx, gm, by omega, by omega, fun H8 s8 => ?_⟩
        refine ⟨q.1, belowI ms (q.2 + D), rfl, rfl, ⟨by omega, by omega⟩, _, _, rfl, gn ?_⟩
        dsimp only
        rw [Int.fdiv_eq_ediv_of_nonneg _ (by omega)]
        have d1 : q.1 / belowI ms (q.2 + D) ≤ 6 := Int.le_trans (Int.ediv_le_self _ (by omega)) (by omega)
        refine ⟨sx.trans s8, (if q.1 / belowI ms (q.2 + D) < d then q.1 / belowI ms (q.2 + D) else d), _, by split <;> omega, fun m hm hmj => ?_, ?_, rfl⟩
        · by_cases z : m = j
          · subst z
            rw [hje]
            split <;> omega
          · have := hd m hm (by omega)
            split <;> omega
        · split
          · exact .inr ⟨q, hqp, rfl⟩
          · exact hor
      · rintro σ Hx ⟨sx, d, v6, d6, hd, hor, rfl⟩
        rw [lss] at hd
        have hd' : ∀ q ∈ ps, d ≤ q.1 / belowI ms (q.2 + D) := fun q hq => by
          obtain ⟨m, hm, rfl⟩ := List.getElem_of_mem hq
          exact hd m hm hm
        have eu : u = d := by
          obtain ⟨q, hq, e⟩ := hex
          have a := hd' q hq
          rcases hor with e2 | ⟨q2, hq2, e2⟩
          · have b := hg.2 q hq
            have := below_pos gm (n := q.2 + D) (by omega) (by omega)
            have : q.1 / belowI ms (q.2 + D) ≤ 6 := Int.le_trans (Int.ediv_le_self _ (by omega)) (by omega)
            omega
          · have := hle q2 hq2
            omega
        subst eu
        have u0 : 0 ≤ u := by
          obtain ⟨q, hq, e⟩ := hex
          have b := hg.2 q hq
          rw [e]
          exact Int.ediv_nonneg (by omega) (by have := below_pos gm (n := q.2 + D) (by omega) (by omega); omega)
        obtain ⟨f1, f2, f3⟩ := (small_int (i := u) u0 (by omega)).facts (by decide) (by decide)
        have m8 := m7.s sx
        dsimp only
        refine ⟨_, rfl, _, _, rfl, .int u, f1, f2, f3, _, rfl, _, _, rfl, .int u, f1, f2, f3, rfl, _, rfl, ?_⟩
        rw [decide_eq_true rfl]
        refine iteF (next_of ?_)
        dsimp only
        have oL8 := oL.same sx
        have oS8 : Od Hx (.ref sa) (limP ps) := .tup (sx _ _ es) (os.same sx)
        refine ⟨1, 7, rfl, by omega, for_range (lo := 1) (n := _) (fun i σ Hy => Mv T p H Hy ∧ Od Hy lv (limP ms) ∧ Od Hy (.ref sa) (limP ps) ∧ ∃ v7 : Option V, σ = [some (.ref p), some lv, some (.ref sa), some (.int D), some (.int u), some (.int u), v6, v7]) ⟨m8, oL8, oS8, none, rfl⟩ ?_ ?_⟩
        · rintro i σ Hy hi ⟨my, oLy, oSy, v7, rfl⟩
          have hi6 : i < 6 := hi
          refine gn ?_
          rw [show (1 : Int) + (i : Int) = ((i + 1 : Nat) : Int) by omega]
          refine ⟨_, rfl, _, rfl, by show 2 ≤ sizeLine; omega, fun t1 ht1 => ?_⟩
          have s8 := same_upd (o := HO.tup [lv, V.int D]) ht1
          refine ⟨by show 1 ≤ sizeLine; omega, fun t2 ht2 => ?_⟩
          have s9 := same_upd (o := HO.tup [V.ref t1]) ht2
          refine ⟨_, rfl, rep_tt (n := i + 1) (by omega) upd_same fun t3 H10 s10 e3 => ?_⟩
          have m10 := ((my.s s8).s s9).s s10
          have s810 := s8.trans (s9.trans s10)
          have e1 := s10 _ _ (s9 _ _ (show upd Hy t1 (.tup [lv, V.int D]) t1 = some (.tup [lv, V.int D]) from upd_same))
          refine ⟨_, rfl, .ref t3, .ref sa, List.replicate (i + 1) (ms, D), ps, rfl, partT _ _ _ (i + 1) (oLy.same s810) e1 e3, by rw [List.length_replicate]; omega, by rw [List.length_replicate]; omega, fun c hc => ?_, oSy.same s810, hg, m10.2.2, fun H12 u12 => ?_⟩
          · rw [(List.mem_replicate.mp hc).2]
            exact ⟨gm, d0, d24⟩
          rw [keep_rep gm hg d0 d24 zp (k := i + 1) (by omega) (by omega) hle hor]
          obtain ⟨f1, f2, f3⟩ := (small_bool (decide (((i + 1 : Nat) : Int) ≤ u))).facts (by decide) (by decide)
          refine ⟨_, _, rfl, .bl _, f1, f2, f3, _, rfl, _, rfl, _, _, rfl, rfl, _, _, rfl, .bl _, f1, f2, f3, rfl, _, rfl, ?_⟩
          rw [decide_eq_true rfl]
          have t12 := stay_ts (u12.stay m10.2.2)
          exact iteF ⟨m10.u u12, (oLy.same s810).ts t12 (tup_lim ms), (oSy.same s810).ts t12 (tup_lim ps), _, rfl⟩
        · rintro σ Hy ⟨my, oLy, oSy, v7, rfl⟩
          exact k _ my
end
end KP

set_option Elab.async false
set_option maxRecDepth 100000
set_option maxHeartbeats 4000000
set_option linter.all false
/-! Ours: the law. -/
namespace KP
open PySem PySem.Spec PyProof.Rows L2 Gr GxR
theorem sql_stay {K : PySem.W.Frag} {H H' : Hp} {a : Addr} {xs : List V} (s : Stay H H') (h : SqL K H a xs) : SqL K H' a xs := by
  rcases h with (h | ⟨o, h⟩) | h
  · exact .inl (.inl (s _ _ h fun _ q => nomatch q))
  · exact .inl (.inr ⟨o, s _ _ h fun _ q => nomatch q⟩)
  · exact .inr h
def spLaw {K : PySem.W.Frag} {mg : Str → Option Value} (T : D K mg) : Sp := fun vs H Q _ => ∃ (a : Addr) (ns : List Int), vs = [.ref a] ∧ SqL K H a (ns.map V.int) ∧ ns.length ≤ 63 ∧ Tb (tabs T) H ∧ ∀ H', Q (.bl true) H'
section
variable {P : Program} {w : World} {K : PySem.W.Frag} {mg : Str → Option Value} {base : Heap} {C : Addr}
theorem sc_law : FnScope ["_law_script", "_law_turn", "_law_well_here"] ["_law_script"] (defScope s_law) := ⟨rfl, rfl, rfl, by decide +kernel, rfl, by decide +kernel, by decide +kernel⟩
theorem ok_law (T : D K mg) (TB : Tabs base T) (B : ExcF K mg "NoShare" C) (hM : SysM K) : FnQ P w K mg base CX0 10 T.f_law T.d_law ["_law_script"] (spLaw T) := by
  refine funQ T.U_law sc_law (fun vs H Q E h => ?_) (fun cdv A outer s H vs Q E hgu hr h => ?_)
  · obtain ⟨a, ns, rfl, _⟩ := h
    rfl
  · obtain ⟨a, ns, rfl, hS, hl, hT, k⟩ := h
    have nd := sc_law.nd
    have GD : FnQ P w K mg base CX0 9 T.f_l_dealt_right T.d_l_dealt_right ["_law_well_here"] (spRight T) := ok_dright T TB B hM
    have GG : FnQ P w K mg base CX0 9 T.f_l_greatest_right T.d_l_greatest_right ["_law_well_here"] (spRight T) := ok_gright T TB hM
    refine ⟨_, pss_cons (ps_for PassesOwn.never rfl (pi_range1 rfl T.range (pa_cons (pe_callB (call_max2 rfl) (by rfl) T.max boot_max (pa_cons pe_int (pa_cons (pe_callB (call_min2 rfl) (by rfl) T.min boot_min (pa_cons (pe_callB call_len_seq (by rfl) T.len PySem.boot_len (pa_cons (pv 0) pa_nil)) (pa_cons pe_int pa_nil))) pa_nil))) pa_nil)) (pg_name (i := 1) nd rfl (.inl rfl))
        (pss_cons (ps_set (i := 2) nd rfl (.inl rfl) (pe_call (ok_l_well T) (hr.mono (by decide)) rfl T.g_l_well T.U_l_well.kp T.b_l_well .nil pass0 (pa_cons (pv 0) (pa_cons (pv 1) pa_nil))))
        (pss_one (ps_if (PW.pt (pw_or (pt_not (pt_val (pe_callQ hgu GD hr rfl T.g_l_dealt_right T.U_l_dealt_right.kp T.b_l_dealt_right .nil pass0 (pa_cons (pv 2) pa_nil)))) (pw_or1 (pt_not (pt_val (pe_callQ hgu GG hr rfl T.g_l_greatest_right T.U_l_greatest_right.kp T.b_l_greatest_right .nil pass0 (pa_cons (pv 2) pa_nil)))))))
          (pss_one (ps_ret pe_bl))
          (pss_nil)))))
      (pss_one (ps_ret pe_bl)), ?_⟩
    refine ⟨_, rfl, a, _, rfl, .inl hS, _, _, rfl, _, _, rfl, _, rfl, ?_, ?_, for_range (lo := 0) (n := _) (fun n σ H2 => Stay H H2 ∧ Tb (tabs T) H2 ∧ ∃ v1 v2 : Option V, σ = [some (.ref a), v1, v2]) ⟨fun _ _ e _ => e, hT, none, none, rfl⟩ ?_ ?_⟩
    · split <;> split <;> omega
    · split <;> split <;> omega
    · rintro n σ H2 hn ⟨s2, t2, v1, v2, rfl⟩
      have hn6 : n < 63 := by
        refine Nat.lt_of_lt_of_le hn ?_
        split <;> split <;> omega
      refine gn ?_
      refine ⟨_, rfl, _, rfl, a, ns, (n : Int), ?_, sql_stay s2 hS, by omega, by omega, fun q H3 hq hw s3 => gn ?_⟩
      · rw [Int.zero_add]
        rfl
      · dsimp only
        refine ⟨_, rfl, q, rfl, hw, t2.same s3, fun H4 mv => ⟨true, rfl, iteF ?_⟩⟩
        refine ⟨_, rfl, q, rfl, mv.2.1, mv.2.2, fun H5 mv2 => ⟨true, rfl, iteF ?_⟩⟩
        have m := mv.trans mv2
        have s4 : Stay H2 H5 := fun b o e nt => m.1 b o (s3 b o e) (ne_of_none e hq) nt
        exact ⟨fun b o e nt => s4 b o (s2 b o e nt) nt, m.2.2, _, _, rfl⟩
    · rintro σ H2 ⟨s2, t2, v1, v2, rfl⟩
      exact k _
end
end KP

set_option Elab.async false
set_option maxRecDepth 100000
set_option maxHeartbeats 8000000
set_option linter.all false
namespace KP
open PySem PySem.Spec PyProof.Rows L2 Gr GxR PySem.W
/-! what is asked of the written part -/
def hasRef : Option Value → Addr → Bool
  | some (.ref a), q => a == q
  | _, _ => false
def isStrV : Value → Bool
  | .str _ _ => true
  | _ => false
def isIntV : Value → Bool
  | .int _ _ => true
  | _ => false
def isBoolV : Value → Bool
  | .bool _ => true
  | _ => false
def hdB (K : Frag) (c q : Addr) : Bool := match K.lookup c with
  | some ⟨.type n, _, .fields vs, _⟩ => n == "code" && (hasRef vs[11]? q && (isStrV (vs.getD 18 .none) && (isIntV (vs.getD 7 .none) && (isBoolV (vs.getD 9 .none) && isIntV (vs.getD 10 .none)))))
  | _ => false
theorem hdB_ok {K : Frag} {h : Heap} {c q : Addr} (X : K.In h) (n : c ≠ q) (e : hdB K c q = true) : CodeHd h c q := by
  unfold hdB at e
  split at e
  · rename_i nm od vs sl hk
    simp only [Bool.and_eq_true, beq_iff_eq] at e
    obtain ⟨rfl, e1, e2, e3, e4, e5⟩ := e
    have r : vs[11]? = some (.ref q) := by
      cases hv : vs[11]? with
      | none => rw [hv] at e1; cases e1
      | some v =>
        rw [hv] at e1
        cases v with
        | ref a =>
          have : (a == q) = true := e1
          rw [beq_iff_eq.mp this]
        | _ => cases e1
    have r2 : vs.getD 11 .none = .ref q := by rw [Array.getD_eq_getD_getElem?, r]; rfl
    generalize h18 : vs.getD 18 .none = v18 at e2
    generalize h7 : vs.getD 7 .none = v7 at e3
    generalize h9 : vs.getD 9 .none = v9 at e4
    generalize h10 : vs.getD 10 .none = v10 at e5
    cases v18 <;> first | cases e2 | skip
    cases v7 <;> first | cases e3 | skip
    cases v9 <;> first | cases e4 | skip
    cases v10 <;> first | cases e5 | skip
    exact ⟨_, vs, _, _, _, _, _, _, _, X _ _ hk, rfl, rfl, r, r2, h18, h7, h9, h10, n⟩
  · cases e
theorem rangeOf {k : Nat} {t : Nat → Bool} (h : (List.range k).all t = true) {n : Nat} (hn : n < k) : t n = true := List.all_eq_true.mp h n (List.mem_range.mpr hn)
def bis : List Str := ("abs" : Str) :: ("all" : Str) :: ("any" : Str) :: ("bool" : Str) :: ("divmod" : Str) :: ("enumerate" : Str) :: ("int" : Str) :: ("isinstance" : Str) :: ("len" : Str) :: ("list" : Str) :: ("max" : Str) :: ("min" : Str) :: ("range" : Str) :: ("repr" : Str) :: ("sorted" : Str) :: ("sum" : Str) :: ("tuple" : Str) :: []
def chkN (K : Frag) : Bool := (List.range 17).all fun n => decide (nsIn K mainGlobals (bis.getD n "") = some none)
theorem nameN {K : Frag} {h : Heap} {mg : Str → Option Value} (X : K.In h) (G : h.Ns mainGlobals mg) (c : chkN K = true) (n : Nat) (hn : n < 17) : mg (bis.getD n "") = none := mg_none_of X G (of_decide_eq_true (rangeOf c hn))
def fnm : List Str := ("opens" : Str) :: ("next_open" : Str) :: ("next_ask" : Str) :: ("soonest_asks" : Str) :: ("most_between" : Str) :: ("most_within" : Str) :: ("is_whole" : Str) :: ("is_between" : Str) :: ("is_tuple" : Str) :: ("check_between" : Str) :: ("is_limit" : Str) :: ("are_limits" : Str) :: ("check_limits" : Str) :: ("is_part" : Str) :: ("check_parts" : Str) :: ("broken_limit" : Str) :: ("keep" : Str) :: ("breaking" : Str) :: ("crowded_row" : Str) :: ("dealt" : Str) :: ("share_of" : Str) :: ("most_crawlers" : Str) :: ("_law_well" : Str) :: ("_law_pick" : Str) :: ("_law_one" : Str) :: ("_law_open" : Str) :: ("_law_wrong_at" : Str) :: ("_law_soonest" : Str) :: ("_law_some_limits" : Str) :: ("_law_dealt" : Str) :: ("_law_due" : Str) :: ("_law_below" : Str) :: ("_law_close" : Str) :: ("_law_dealt_right" : Str) :: ("_law_greatest_right" : Str) :: ("law" : Str) :: []
def fad : List Addr := [22, 29, 34, 41, 48, 55, 144, 151, 158, 165, 172, 179, 186, 193, 200, 205, 212, 217, 222, 227, 234, 239, 246, 253, 260, 267, 272, 279, 284, 291, 296, 301, 306, 311, 318, 325]
def chkF (K : Frag) : Bool := (List.range 36).all fun n => decide (nsIn K mainGlobals (fnm.getD n "") = some (some (.ref (fad.getD n 0)))) && keepIn K (.ref (fad.getD n 0))
theorem nameF {K : Frag} {h : Heap} {mg : Str → Option Value} (X : K.In h) (G : h.Ns mainGlobals mg) (c : chkF K = true) (n : Nat) (hn : n < 36) : mg (fnm.getD n "") = some (.ref (fad.getD n 0)) ∧ keepIn K (.ref (fad.getD n 0)) = true := by
  have q := rangeOf c hn
  simp only [Bool.and_eq_true, decide_eq_true_eq] at q
  exact ⟨mg_of X G q.1, q.2⟩
def chkS (K : Frag) : Bool := match K.lookup sysModules with
  | some ⟨_, _, .dict _ _, _⟩ => true
  | _ => false
theorem sysM_of {K : Frag} (h : chkS K = true) : SysM K := by
  unfold chkS at h
  split at h
  · rename_i es n _ q
    exact ⟨_, es, n, q, rfl⟩
  · cases h
theorem fun_mkS {K K0 : Frag} {x qual : Str} {st : Stmt} {f : Addr} {oc : Value} {od an : Option Addr} {osl : Array (Option Value)} {kV doc pm cdv ct : Value} (hK : ∀ b, b ≠ sysModules → K.lookup b = K0.lookup b) (ne : f ≠ sysModules)
    (l : K0.lookup f = some ⟨oc, od, .func (fnOf x qual (defArgs st) (defBody st) (defScope st) .none kV doc pm an cdv ct), osl⟩) (c : codeIn K cdv qual = true) : ∃ fd, keepIn K (.ref f) = true → Fun K x qual st f fd :=
  ⟨_, fun k => fun_mk ((hK _ ne).trans l) c k⟩
theorem fun_mkC {K K0 : Frag} {x qual : Str} {st : Stmt} {f c : Addr} {oc : Value} {od an : Option Addr} {osl : Array (Option Value)} {kV doc pm ct : Value} (hK : ∀ b, b ≠ sysModules → K.lookup b = K0.lookup b) (ne : f ≠ sysModules)
    (l : K0.lookup f = some ⟨oc, od, .func (fnOf x qual (defArgs st) (defBody st) (defScope st) .none kV doc pm an (.ref c) ct), osl⟩) (cc : codeIn K (.ref c) qual = true) : ∃ fd, keepIn K (.ref f) = true → FunC K x qual st f fd c :=
  ⟨_, fun k => ⟨⟨oc, od, kV, doc, pm, an, ct, osl, rfl, (hK _ ne).trans l, cc⟩, k⟩⟩
def chkInt (K : Frag) (x : Str) (n : Int) : Bool := match nsIn K mainGlobals x with
  | some (some (.int m _)) => m == n
  | _ => false
def chkStr (K : Frag) (x : Str) (n : Str) : Bool := match nsIn K mainGlobals x with
  | some (some (.str m _)) => m == n
  | _ => false
theorem int_of {K : Frag} {x : Str} {n : Int} (h : chkInt K x n = true) : ∃ t, nsIn K mainGlobals x = some (some (.int n t)) := by
  unfold chkInt at h
  split at h
  · rename_i m t q
    exact ⟨t, by rw [q, beq_iff_eq.mp h]⟩
  · cases h
theorem str_of {K : Frag} {x : Str} {n : Str} (h : chkStr K x n = true) : ∃ t, nsIn K mainGlobals x = some (some (.str n t)) := by
  unfold chkStr at h
  split at h
  · rename_i m t q
    exact ⟨t, by rw [q, beq_iff_eq.mp h]⟩
  · cases h
/-- values that are these constants -/
def valsB : List Value → List L2.V → Bool
  | [], [] => true
  | .int i _ :: l, .int j :: m => i == j && valsB l m
  | .str i _ :: l, .str j :: m => i == j && valsB l m
  | _, _ => false
theorem valsB_ok : ∀ {l : List Value} {m : List L2.V}, valsB l m = true → L2.Vals m l
  | [], [], _ => .nil
  | .int i t :: l, .int j :: m, h => by
    have h : (i == j && valsB l m) = true := h
    rw [Bool.and_eq_true] at h
    exact .cons ⟨t, by rw [beq_iff_eq.mp h.1]⟩ (valsB_ok h.2)
  | .str i t :: l, .str j :: m, h => by
    have h : (i == j && valsB l m) = true := h
    rw [Bool.and_eq_true] at h
    exact .cons ⟨t, by rw [beq_iff_eq.mp h.1]⟩ (valsB_ok h.2)
theorem valsB_len : ∀ {l : List Value} {m : List L2.V}, L2.Vals m l → l.length = m.length
  | _, _, .nil => rfl
  | _, _, .cons _ h => by rw [List.length_cons, List.length_cons, valsB_len h]
/-- the global x is a tuple of the written part, of these constants -/
def chkTup (K : Frag) (x : Str) (m : List L2.V) : Bool := match nsIn K mainGlobals x with
  | some (some (.ref a)) => (match K.lookup a with
    | some o => (match o.cls with | .type c => decide (c = "tuple") | _ => false) && (match o.data with | .seq its _ => valsB its.toList m && decide (m.length ≤ 1000) | _ => false)
    | none => false)
  | _ => false
theorem tup_of {K : Frag} {x : Str} {m : List L2.V} (h : chkTup K x m = true) : ∃ a, nsIn K mainGlobals x = some (some (.ref a)) ∧ ∃ (o : Obj) (its : Array Value) (n : Nat), K.lookup a = some o ∧ o.cls = .type "tuple" ∧ o.data = .seq its n ∧ its.size ≤ sizeLine ∧ L2.Vals m its.toList := by
  unfold chkTup at h
  split at h
  · rename_i _ a q
    refine ⟨a, q, ?_⟩
    split at h
    · rename_i o ho
      rw [Bool.and_eq_true] at h
      obtain ⟨h1, h2⟩ := h
      split at h1
      · rename_i c hc
        have h1 := of_decide_eq_true h1
        split at h2
        · rename_i its n hd
          rw [Bool.and_eq_true] at h2
          have v := valsB_ok h2.1
          have h3 := of_decide_eq_true h2.2
          refine ⟨o, its, n, ho, by rw [hc, h1], hd, ?_, v⟩
          have e : its.size = m.length := by rw [← Array.length_toList, valsB_len v]
          rw [e, sizeLine_eq]
          omega
        · cases h2
      · cases h1
    · cases h
  · cases h
/-- all that is asked of the written part -/
structure Facts (K : Frag) : Prop where
  n : chkN K = true
  f : chkF K = true
  s : chkS K = true
  k0 : chkTup K "ALWAYS" [L2.V.int 1] = true
  k1 : chkInt K "MOST_ASKS" 6 = true
  k2 : chkInt K "WIDEST" 12 = true
  k3 : chkInt K "MOST_PAIRS" 4 = true
  k4 : chkInt K "MOST_PARTS" 6 = true
  k5 : chkInt K "LATEST" 24 = true
  b1NoShare : nsIn K mainGlobals "NoShare" = some (some (.ref 135))
  b2NoShare : excIn K 135 [.type "ValueError", .type "Exception", .type "BaseException", .type "object"] "ValueError.__new__" = true
  b3NoShare : keepIn K (.ref 135) = true
  b4NoShare : subIn K (.ref 135) (.type "BaseException") = some true
  b5NoShare : typeIn K (.ref 135) = some (.type "type")
  b6NoShare : exmOne K (.ref 135) (.ref 135) = some true
  d0 : ∃ fd, keepIn K (.ref 22) = true → Fun K "opens" "opens" s_opens 22 fd
  d1 : ∃ fd, keepIn K (.ref 29) = true → Fun K "next_open" "next_open" s_next_open 29 fd
  d2 : ∃ fd, keepIn K (.ref 34) = true → Fun K "next_ask" "next_ask" s_next_ask 34 fd
  d3 : ∃ fd, keepIn K (.ref 41) = true → Fun K "soonest_asks" "soonest_asks" s_soonest_asks 41 fd
  d4 : ∃ fd, keepIn K (.ref 48) = true → Fun K "most_between" "most_between" s_most_between 48 fd
  d5 : ∃ fd, keepIn K (.ref 55) = true → Fun K "most_within" "most_within" s_most_within 55 fd
  d6 : ∃ fd, keepIn K (.ref 144) = true → Fun K "is_whole" "is_whole" s_is_whole 144 fd
  d7 : ∃ fd, keepIn K (.ref 151) = true → Fun K "is_between" "is_between" s_is_between 151 fd
  d8 : ∃ fd, keepIn K (.ref 158) = true → Fun K "is_tuple" "is_tuple" s_is_tuple 158 fd
  d9 : ∃ fd, keepIn K (.ref 165) = true → Fun K "check_between" "check_between" s_check_between 165 fd
  d10 : ∃ fd, keepIn K (.ref 172) = true → Fun K "is_limit" "is_limit" s_is_limit 172 fd
  d11 : ∃ fd, keepIn K (.ref 179) = true → FunC K "are_limits" "are_limits" s_are_limits 179 fd 178
  t11 : hdB K 178 174 = true
  o11 : (K.lookup 174).isNone = true
  d12 : ∃ fd, keepIn K (.ref 186) = true → Fun K "check_limits" "check_limits" s_check_limits 186 fd
  d13 : ∃ fd, keepIn K (.ref 193) = true → Fun K "is_part" "is_part" s_is_part 193 fd
  d14 : ∃ fd, keepIn K (.ref 200) = true → Fun K "check_parts" "check_parts" s_check_parts 200 fd
  d15 : ∃ fd, keepIn K (.ref 205) = true → Fun K "broken_limit" "broken_limit" s_broken_limit 205 fd
  d16 : ∃ fd, keepIn K (.ref 212) = true → Fun K "keep" "keep" s_keep 212 fd
  d17 : ∃ fd, keepIn K (.ref 217) = true → Fun K "breaking" "breaking" s_breaking 217 fd
  d18 : ∃ fd, keepIn K (.ref 222) = true → Fun K "crowded_row" "crowded_row" s_crowded_row 222 fd
  d19 : ∃ fd, keepIn K (.ref 227) = true → FunC K "dealt" "dealt" s_dealt 227 fd 226
  t19 : hdB K 226 224 = true
  o19 : (K.lookup 224).isNone = true
  d20 : ∃ fd, keepIn K (.ref 234) = true → Fun K "share_of" "share_of" s_share_of 234 fd
  d21 : ∃ fd, keepIn K (.ref 239) = true → Fun K "most_crawlers" "most_crawlers" s_most_crawlers 239 fd
  d22 : ∃ fd, keepIn K (.ref 246) = true → Fun K "_law_well" "_law_well" s_l_well 246 fd
  d23 : ∃ fd, keepIn K (.ref 253) = true → Fun K "_law_pick" "_law_pick" s_l_pick 253 fd
  d24 : ∃ fd, keepIn K (.ref 260) = true → Fun K "_law_one" "_law_one" s_l_one 260 fd
  d25 : ∃ fd, keepIn K (.ref 267) = true → Fun K "_law_open" "_law_open" s_l_open 267 fd
  d26 : ∃ fd, keepIn K (.ref 272) = true → Fun K "_law_wrong_at" "_law_wrong_at" s_l_wrong_at 272 fd
  d27 : ∃ fd, keepIn K (.ref 279) = true → Fun K "_law_soonest" "_law_soonest" s_l_soonest 279 fd
  d28 : ∃ fd, keepIn K (.ref 284) = true → Fun K "_law_some_limits" "_law_some_limits" s_l_some_limits 284 fd
  d29 : ∃ fd, keepIn K (.ref 291) = true → Fun K "_law_dealt" "_law_dealt" s_l_dealt 291 fd
  d30 : ∃ fd, keepIn K (.ref 296) = true → Fun K "_law_due" "_law_due" s_l_due 296 fd
  d31 : ∃ fd, keepIn K (.ref 301) = true → Fun K "_law_below" "_law_below" s_l_below 301 fd
  d32 : ∃ fd, keepIn K (.ref 306) = true → Fun K "_law_close" "_law_close" s_l_close 306 fd
  d33 : ∃ fd, keepIn K (.ref 311) = true → Fun K "_law_dealt_right" "_law_dealt_right" s_l_dealt_right 311 fd
  d34 : ∃ fd, keepIn K (.ref 318) = true → Fun K "_law_greatest_right" "_law_greatest_right" s_l_greatest_right 318 fd
  d35 : ∃ fd, keepIn K (.ref 325) = true → Fun K "law" "law" s_law 325 fd
theorem all_ok {P : Program} {w : World} {K : Frag} {h : Heap} {mg : Str → Option Value} {fa : Addr} (Z : Facts K) (X : K.In h) (G : h.Ns mainGlobals mg) (hfa : mg "law" = some (.ref fa)) (h174 : h.get? 174 = some (tabO #[])) (h224 : h.get? 224 = some (tabO #[])) :
    ∃ (fd : FuncData) (cs : List (Addr × Addr)) (sp : Sp), (∀ p ∈ cs, h.get? p.2 = some (tabO #[])) ∧ (∀ p ∈ cs, K.lookup p.2 = none) ∧ (∀ p ∈ cs, CodeHd h p.1 p.2) ∧ (∀ (s : Shared) (u : Value), BindsTo s fd ⟨[u], []⟩ [("_law_script", u)]) ∧
      (∀ (H : Hp) (a : Addr) (ns : List Int), ns.length ≤ 63 → (∀ p ∈ cs, H p.2 = some (.tbl #[])) → SqL K H a (ns.map V.int) → sp [.ref a] H (fun v _ => v = .bl true) fun _ _ _ => False) ∧
      ∀ base : Heap, K.In base → base.Ns mainGlobals mg → (∀ p ∈ cs, TabB base mg p.1 p.2) → FnQ P w K mg base CX0 10 fa fd ["_law_script"] sp := by
  have nf := nameF X G Z.f
  have nn := nameN X G Z.n
  have e := hfa.symm.trans (nf 35 (by decide)).1
  cases e
  obtain ⟨z0, u0⟩ := Z.d0
  have u0 := u0 (nf 0 (by decide)).2
  obtain ⟨z1, u1⟩ := Z.d1
  have u1 := u1 (nf 1 (by decide)).2
  obtain ⟨z2, u2⟩ := Z.d2
  have u2 := u2 (nf 2 (by decide)).2
  obtain ⟨z3, u3⟩ := Z.d3
  have u3 := u3 (nf 3 (by decide)).2
  obtain ⟨z4, u4⟩ := Z.d4
  have u4 := u4 (nf 4 (by decide)).2
  obtain ⟨z5, u5⟩ := Z.d5
  have u5 := u5 (nf 5 (by decide)).2
  obtain ⟨z6, u6⟩ := Z.d6
  have u6 := u6 (nf 6 (by decide)).2
  obtain ⟨z7, u7⟩ := Z.d7
  have u7 := u7 (nf 7 (by decide)).2
  obtain ⟨z8, u8⟩ := Z.d8
  have u8 := u8 (nf 8 (by decide)).2
  obtain ⟨z9, u9⟩ := Z.d9
  have u9 := u9 (nf 9 (by decide)).2
  obtain ⟨z10, u10⟩ := Z.d10
  have u10 := u10 (nf 10 (by decide)).2
  obtain ⟨z11, u11⟩ := Z.d11
  have u11 := u11 (nf 11 (by decide)).2
  obtain ⟨z12, u12⟩ := Z.d12
  have u12 := u12 (nf 12 (by decide)).2
  obtain ⟨z13, u13⟩ := Z.d13
  have u13 := u13 (nf 13 (by decide)).2
  obtain ⟨z14, u14⟩ := Z.d14
  have u14 := u14 (nf 14 (by decide)).2
  obtain ⟨z15, u15⟩ := Z.d15
  have u15 := u15 (nf 15 (by decide)).2
  obtain ⟨z16, u16⟩ := Z.d16
  have u16 := u16 (nf 16 (by decide)).2
  obtain ⟨z17, u17⟩ := Z.d17
  have u17 := u17 (nf 17 (by decide)).2
  obtain ⟨z18, u18⟩ := Z.d18
  have u18 := u18 (nf 18 (by decide)).2
  obtain ⟨z19, u19⟩ := Z.d19
  have u19 := u19 (nf 19 (by decide)).2
  obtain ⟨z20, u20⟩ := Z.d20
  have u20 := u20 (nf 20 (by decide)).2
  obtain ⟨z21, u21⟩ := Z.d21
  have u21 := u21 (nf 21 (by decide)).2
  obtain ⟨z22, u22⟩ := Z.d22
  have u22 := u22 (nf 22 (by decide)).2
  obtain ⟨z23, u23⟩ := Z.d23
  have u23 := u23 (nf 23 (by decide)).2
  obtain ⟨z24, u24⟩ := Z.d24
  have u24 := u24 (nf 24 (by decide)).2
  obtain ⟨z25, u25⟩ := Z.d25
  have u25 := u25 (nf 25 (by decide)).2
  obtain ⟨z26, u26⟩ := Z.d26
  have u26 := u26 (nf 26 (by decide)).2
  obtain ⟨z27, u27⟩ := Z.d27
  have u27 := u27 (nf 27 (by decide)).2
  obtain ⟨z28, u28⟩ := Z.d28
  have u28 := u28 (nf 28 (by decide)).2
  obtain ⟨z29, u29⟩ := Z.d29
  have u29 := u29 (nf 29 (by decide)).2
  obtain ⟨z30, u30⟩ := Z.d30
  have u30 := u30 (nf 30 (by decide)).2
  obtain ⟨z31, u31⟩ := Z.d31
  have u31 := u31 (nf 31 (by decide)).2
  obtain ⟨z32, u32⟩ := Z.d32
  have u32 := u32 (nf 32 (by decide)).2
  obtain ⟨z33, u33⟩ := Z.d33
  have u33 := u33 (nf 33 (by decide)).2
  obtain ⟨z34, u34⟩ := Z.d34
  have u34 := u34 (nf 34 (by decide)).2
  obtain ⟨z35, u35⟩ := Z.d35
  have u35 := u35 (nf 35 (by decide)).2
  obtain ⟨w0, y0, al0⟩ := tup_of Z.k0
  obtain ⟨w1, y1⟩ := int_of Z.k1
  obtain ⟨w2, y2⟩ := int_of Z.k2
  obtain ⟨w3, y3⟩ := int_of Z.k3
  obtain ⟨w4, y4⟩ := int_of Z.k4
  obtain ⟨w5, y5⟩ := int_of Z.k5
  let T : D K mg :=
   {
    f_opens := 22,
    d_opens := z0,
    U_opens := u0,
    g_opens := (nf 0 (by decide)).1,
    f_next_open := 29,
    d_next_open := z1,
    U_next_open := u1,
    g_next_open := (nf 1 (by decide)).1,
    f_next_ask := 34,
    d_next_ask := z2,
    U_next_ask := u2,
    g_next_ask := (nf 2 (by decide)).1,
    f_soonest_asks := 41,
    d_soonest_asks := z3,
    U_soonest_asks := u3,
    g_soonest_asks := (nf 3 (by decide)).1,
    f_most_between := 48,
    d_most_between := z4,
    U_most_between := u4,
    g_most_between := (nf 4 (by decide)).1,
    f_most_within := 55,
    d_most_within := z5,
    U_most_within := u5,
    g_most_within := (nf 5 (by decide)).1,
    f_is_whole := 144,
    d_is_whole := z6,
    U_is_whole := u6,
    g_is_whole := (nf 6 (by decide)).1,
    f_is_between := 151,
    d_is_between := z7,
    U_is_between := u7,
    g_is_between := (nf 7 (by decide)).1,
    f_is_tuple := 158,
    d_is_tuple := z8,
    U_is_tuple := u8,
    g_is_tuple := (nf 8 (by decide)).1,
    f_check_between := 165,
    d_check_between := z9,
    U_check_between := u9,
    g_check_between := (nf 9 (by decide)).1,
    f_is_limit := 172,
    d_is_limit := z10,
    U_is_limit := u10,
    g_is_limit := (nf 10 (by decide)).1,
    f_are_limits := 179,
    d_are_limits := z11,
    c_are_limits := 178,
    P_are_limits := 174,
    V_are_limits := u11,
    g_are_limits := (nf 11 (by decide)).1,
    f_check_limits := 186,
    d_check_limits := z12,
    U_check_limits := u12,
    g_check_limits := (nf 12 (by decide)).1,
    f_is_part := 193,
    d_is_part := z13,
    U_is_part := u13,
    g_is_part := (nf 13 (by decide)).1,
    f_check_parts := 200,
    d_check_parts := z14,
    U_check_parts := u14,
    g_check_parts := (nf 14 (by decide)).1,
    f_broken_limit := 205,
    d_broken_limit := z15,
    U_broken_limit := u15,
    g_broken_limit := (nf 15 (by decide)).1,
    f_keep := 212,
    d_keep := z16,
    U_keep := u16,
    g_keep := (nf 16 (by decide)).1,
    f_breaking := 217,
    d_breaking := z17,
    U_breaking := u17,
    g_breaking := (nf 17 (by decide)).1,
    f_crowded_row := 222,
    d_crowded_row := z18,
    U_crowded_row := u18,
    g_crowded_row := (nf 18 (by decide)).1,
    f_dealt := 227,
    d_dealt := z19,
    c_dealt := 226,
    P_dealt := 224,
    V_dealt := u19,
    g_dealt := (nf 19 (by decide)).1,
    f_share_of := 234,
    d_share_of := z20,
    U_share_of := u20,
    g_share_of := (nf 20 (by decide)).1,
    f_most_crawlers := 239,
    d_most_crawlers := z21,
    U_most_crawlers := u21,
    g_most_crawlers := (nf 21 (by decide)).1,
    f_l_well := 246,
    d_l_well := z22,
    U_l_well := u22,
    g_l_well := (nf 22 (by decide)).1,
    f_l_pick := 253,
    d_l_pick := z23,
    U_l_pick := u23,
    g_l_pick := (nf 23 (by decide)).1,
    f_l_one := 260,
    d_l_one := z24,
    U_l_one := u24,
    g_l_one := (nf 24 (by decide)).1,
    f_l_open := 267,
    d_l_open := z25,
    U_l_open := u25,
    g_l_open := (nf 25 (by decide)).1,
    f_l_wrong_at := 272,
    d_l_wrong_at := z26,
    U_l_wrong_at := u26,
    g_l_wrong_at := (nf 26 (by decide)).1,
    f_l_soonest := 279,
    d_l_soonest := z27,
    U_l_soonest := u27,
    g_l_soonest := (nf 27 (by decide)).1,
    f_l_some_limits := 284,
    d_l_some_limits := z28,
    U_l_some_limits := u28,
    g_l_some_limits := (nf 28 (by decide)).1,
    f_l_dealt := 291,
    d_l_dealt := z29,
    U_l_dealt := u29,
    g_l_dealt := (nf 29 (by decide)).1,
    f_l_due := 296,
    d_l_due := z30,
    U_l_due := u30,
    g_l_due := (nf 30 (by decide)).1,
    f_l_below := 301,
    d_l_below := z31,
    U_l_below := u31,
    g_l_below := (nf 31 (by decide)).1,
    f_l_close := 306,
    d_l_close := z32,
    U_l_close := u32,
    g_l_close := (nf 32 (by decide)).1,
    f_l_dealt_right := 311,
    d_l_dealt_right := z33,
    U_l_dealt_right := u33,
    g_l_dealt_right := (nf 33 (by decide)).1,
    f_l_greatest_right := 318,
    d_l_greatest_right := z34,
    U_l_greatest_right := u34,
    g_l_greatest_right := (nf 34 (by decide)).1,
    f_law := 325,
    d_law := z35,
    U_law := u35,
    g_law := (nf 35 (by decide)).1,
    a_ALWAYS := w0,
    k_ALWAYS := al0,
    g_ALWAYS := mg_of X G y0,
    t_MOST_ASKS := w1,
    g_MOST_ASKS := mg_of X G y1,
    t_WIDEST := w2,
    g_WIDEST := mg_of X G y2,
    t_MOST_PAIRS := w3,
    g_MOST_PAIRS := mg_of X G y3,
    t_MOST_PARTS := w4,
    g_MOST_PARTS := mg_of X G y4,
    t_LATEST := w5,
    g_LATEST := mg_of X G y5,
    abs := nn 0 (by decide),
    all := nn 1 (by decide),
    any := nn 2 (by decide),
    bool := nn 3 (by decide),
    divmod := nn 4 (by decide),
    enumerate := nn 5 (by decide),
    int := nn 6 (by decide),
    isinstance := nn 7 (by decide),
    len := nn 8 (by decide),
    list := nn 9 (by decide),
    max := nn 10 (by decide),
    min := nn 11 (by decide),
    range := nn 12 (by decide),
    repr := nn 13 (by decide),
    sorted := nn 14 (by decide),
    sum := nn 15 (by decide),
    tuple := nn 16 (by decide) }
  refine ⟨T.d_law, [(178, 174), (226, 224)], spLaw T, ?_, ?_, ?_, ?_, ?_, fun base _ _ TB => ok_law T ⟨TB (178, 174) (by simp), TB (226, 224) (by simp)⟩ ⟨mg_of X G Z.b1NoShare, Z.b2NoShare, Z.b3NoShare, Z.b4NoShare, Z.b5NoShare, Z.b6NoShare⟩ (sysM_of Z.s)⟩
  · intro p hp
    simp only [List.mem_cons, List.not_mem_nil, or_false] at hp
    rcases hp with rfl | rfl
    · exact h174
    · exact h224
  · intro p hp
    simp only [List.mem_cons, List.not_mem_nil, or_false] at hp
    rcases hp with rfl | rfl
    · exact Option.isNone_iff_eq_none.mp Z.o11
    · exact Option.isNone_iff_eq_none.mp Z.o19
  · intro p hp
    simp only [List.mem_cons, List.not_mem_nil, or_false] at hp
    rcases hp with rfl | rfl
    · exact hdB_ok X (by decide) Z.t11
    · exact hdB_ok X (by decide) Z.t19
  · obtain ⟨oc, od, kV, doc, pm, an, cdv, ct, osl, e, _⟩ := T.U_law.ex
    rw [e]
    exact fun s u => .of_eq rfl
  · intro H a ns hl hT hS
    refine ⟨a, ns, rfl, hS, hl, fun q hq => ?_, fun _ => rfl⟩
    simp only [tabs, List.mem_cons, List.not_mem_nil, or_false] at hq
    rcases hq with rfl | rfl
    · exact ⟨#[], hT (178, 174) (by simp), by simp [TriplesOk]⟩
    · exact ⟨#[], hT (226, 224) (by simp), by simp [TriplesOk]⟩
end KP

set_option Elab.async false
set_option maxRecDepth 100000
set_option maxHeartbeats 8000000
set_option linter.all false
namespace KP
open PySem PySem.Spec PyProof.Rows L2 Gr PySem.W
/-! the head: beside the written part the table of the modules is looked at, and the tables of the code objects that make generators -/
noncomputable def sysO (P : Params) : Obj := ((boot_heap P).get? sysModules).getD default
noncomputable def withSys (K : Params → Frag) (P : Params) : Frag := (sysModules, sysO P) :: K P
theorem lookup_withSys {K : Params → Frag} {P : Params} (b : Addr) (h : b ≠ sysModules) : (withSys K P).lookup b = (K P).lookup b := by
  unfold withSys
  rw [List.lookup_cons, beq_eq_false_iff_ne.mpr h]
noncomputable def withTabs (K : Params → Frag) (P : Params) : Frag := (174, tabO #[]) :: (224, tabO #[]) :: withSys K P
theorem tabE {K : Params → Frag} {as : List Addr} (e : ∀ P, as = (K P).map (·.1)) (P : Params) : 174 :: 224 :: sysModules :: as = (withTabs K P).map (·.1) := congrArg (fun l => 174 :: 224 :: sysModules :: l) (e P)
theorem tabs_in {K : Params → Frag} {P : Params} {h : Heap} (X : (withTabs K P).In h) (o174 : ((withSys K P).lookup 174).isNone = true) (o224 : ((withSys K P).lookup 224).isNone = true) : (withSys K P).In h ∧ h.get? 174 = some (tabO #[]) ∧ h.get? 224 = some (tabO #[]) := by
  refine ⟨fun b o e => X b o ?_, X 174 _ (by rfl), X 224 _ (by rfl)⟩
  have n174 : b ≠ 174 := fun q => by
    rw [q, Option.isNone_iff_eq_none.mp o174] at e
    cases e
  have n224 : b ≠ 224 := fun q => by
    rw [q, Option.isNone_iff_eq_none.mp o224] at e
    cases e
  unfold withTabs
  rw [List.lookup_cons, beq_eq_false_iff_ne.mpr n174]
  rw [List.lookup_cons, beq_eq_false_iff_ne.mpr n224]
  exact e
end KP
open PySem PySem.W PyProof.Rows
local macro_rules
  | `(tactic| o_headL ($_ $K $as $p)) => `(tactic| o_headL PySem.W.kHook (KP.withTabs $K) (174 :: 224 :: PySem.sysModules :: $as) (KP.tabE (K := $K) (as := $as) $p))
set_option maxHeartbeats 0 in
theorem PySem.Challenge.cw_gentlerounds_k17_whole_shares_dealt_out_holds : PySem.Challenge.rw_gentlerounds_k17_whole_shares_dealt_out.Holds := by
  w_on; o_law; k_headL; (case hw => w_witness2)
  k_fill
  refine Gr.walk_ofQT (l := PySem.Challenge.rw_gentlerounds_k17_whole_shares_dealt_out) (n := 63) (k := 10) (x := "_law_script") (K := KP.withSys _) rfl (by decide) rfl ⟨rfl, by decide, by decide⟩ (fun w h Y => (KP.tabs_in (PySem.W.kIn_of Y) (by kernel_rfl) (by kernel_rfl)).1) ?F
  case F => as_aux_lemma =>
    intro w mg fa h Y KX G hmg
    have Q := KP.tabs_in (PySem.W.kIn_of Y) (by kernel_rfl) (by kernel_rfl)
    refine' KP.all_ok (KP.Facts.mk ?n ?f ?s ?k0 ?k1 ?k2 ?k3 ?k4 ?k5 ?b1NoShare ?b2NoShare ?b3NoShare ?b4NoShare ?b5NoShare ?b6NoShare ?d0 ?d1 ?d2 ?d3 ?d4 ?d5 ?d6 ?d7 ?d8 ?d9 ?d10 ?d11 ?t11 ?o11 ?d12 ?d13 ?d14 ?d15 ?d16 ?d17 ?d18 ?d19 ?t19 ?o19 ?d20 ?d21 ?d22 ?d23 ?d24 ?d25 ?d26 ?d27 ?d28 ?d29 ?d30 ?d31 ?d32 ?d33 ?d34 ?d35) KX G hmg Q.2.1 Q.2.2
    (case n => as_aux_lemma => kernel_rfl)
    (case f => as_aux_lemma => kernel_rfl)
    (case s => as_aux_lemma => kernel_rfl)
    (case k0 => as_aux_lemma => kernel_rfl)
    (case k1 => as_aux_lemma => kernel_rfl)
    (case k2 => as_aux_lemma => kernel_rfl)
    (case k3 => as_aux_lemma => kernel_rfl)
    (case k4 => as_aux_lemma => kernel_rfl)
    (case k5 => as_aux_lemma => kernel_rfl)
    (case b1NoShare => as_aux_lemma => kernel_rfl)
    (case b2NoShare => as_aux_lemma => kernel_rfl)
    (case b3NoShare => as_aux_lemma => kernel_rfl)
    (case b4NoShare => as_aux_lemma => kernel_rfl)
    (case b5NoShare => as_aux_lemma => kernel_rfl)
    (case b6NoShare => as_aux_lemma => kernel_rfl)
    (case d0 => (refine' KP.fun_mkS (f := 22) KP.lookup_withSys (by decide) ?l ?c; (case l => k_is); (case c => kernel_rfl)))
    (case d1 => (refine' KP.fun_mkS (f := 29) KP.lookup_withSys (by decide) ?l ?c; (case l => k_is); (case c => kernel_rfl)))
    (case d2 => (refine' KP.fun_mkS (f := 34) KP.lookup_withSys (by decide) ?l ?c; (case l => k_is); (case c => kernel_rfl)))
    (case d3 => (refine' KP.fun_mkS (f := 41) KP.lookup_withSys (by decide) ?l ?c; (case l => k_is); (case c => kernel_rfl)))
    (case d4 => (refine' KP.fun_mkS (f := 48) KP.lookup_withSys (by decide) ?l ?c; (case l => k_is); (case c => kernel_rfl)))
    (case d5 => (refine' KP.fun_mkS (f := 55) KP.lookup_withSys (by decide) ?l ?c; (case l => k_is); (case c => kernel_rfl)))
    (case d6 => (refine' KP.fun_mkS (f := 144) KP.lookup_withSys (by decide) ?l ?c; (case l => k_is); (case c => kernel_rfl)))
    (case d7 => (refine' KP.fun_mkS (f := 151) KP.lookup_withSys (by decide) ?l ?c; (case l => k_is); (case c => kernel_rfl)))
    (case d8 => (refine' KP.fun_mkS (f := 158) KP.lookup_withSys (by decide) ?l ?c; (case l => k_is); (case c => kernel_rfl)))
    (case d9 => (refine' KP.fun_mkS (f := 165) KP.lookup_withSys (by decide) ?l ?c; (case l => k_is); (case c => kernel_rfl)))
    (case d10 => (refine' KP.fun_mkS (f := 172) KP.lookup_withSys (by decide) ?l ?c; (case l => k_is); (case c => kernel_rfl)))
    (case d11 => (refine' KP.fun_mkC (f := 179) KP.lookup_withSys (by decide) ?l ?c; (case l => k_is); (case c => kernel_rfl)))
    (case t11 => as_aux_lemma => kernel_rfl)
    (case o11 => as_aux_lemma => kernel_rfl)
    (case d12 => (refine' KP.fun_mkS (f := 186) KP.lookup_withSys (by decide) ?l ?c; (case l => k_is); (case c => kernel_rfl)))
    (case d13 => (refine' KP.fun_mkS (f := 193) KP.lookup_withSys (by decide) ?l ?c; (case l => k_is); (case c => kernel_rfl)))
    (case d14 => (refine' KP.fun_mkS (f := 200) KP.lookup_withSys (by decide) ?l ?c; (case l => k_is); (case c => kernel_rfl)))
    (case d15 => (refine' KP.fun_mkS (f := 205) KP.lookup_withSys (by decide) ?l ?c; (case l => k_is); (case c => kernel_rfl)))
    (case d16 => (refine' KP.fun_mkS (f := 212) KP.lookup_withSys (by decide) ?l ?c; (case l => k_is); (case c => kernel_rfl)))
    (case d17 => (refine' KP.fun_mkS (f := 217) KP.lookup_withSys (by decide) ?l ?c; (case l => k_is); (case c => kernel_rfl)))
    (case d18 => (refine' KP.fun_mkS (f := 222) KP.lookup_withSys (by decide) ?l ?c; (case l => k_is); (case c => kernel_rfl)))
    (case d19 => (refine' KP.fun_mkC (f := 227) KP.lookup_withSys (by decide) ?l ?c; (case l => k_is); (case c => kernel_rfl)))
    (case t19 => as_aux_lemma => kernel_rfl)
    (case o19 => as_aux_lemma => kernel_rfl)
    (case d20 => (refine' KP.fun_mkS (f := 234) KP.lookup_withSys (by decide) ?l ?c; (case l => k_is); (case c => kernel_rfl)))
    (case d21 => (refine' KP.fun_mkS (f := 239) KP.lookup_withSys (by decide) ?l ?c; (case l => k_is); (case c => kernel_rfl)))
    (case d22 => (refine' KP.fun_mkS (f := 246) KP.lookup_withSys (by decide) ?l ?c; (case l => k_is); (case c => kernel_rfl)))
    (case d23 => (refine' KP.fun_mkS (f := 253) KP.lookup_withSys (by decide) ?l ?c; (case l => k_is); (case c => kernel_rfl)))
    (case d24 => (refine' KP.fun_mkS (f := 260) KP.lookup_withSys (by decide) ?l ?c; (case l => k_is); (case c => kernel_rfl)))
    (case d25 => (refine' KP.fun_mkS (f := 267) KP.lookup_withSys (by decide) ?l ?c; (case l => k_is); (case c => kernel_rfl)))
    (case d26 => (refine' KP.fun_mkS (f := 272) KP.lookup_withSys (by decide) ?l ?c; (case l => k_is); (case c => kernel_rfl)))
    (case d27 => (refine' KP.fun_mkS (f := 279) KP.lookup_withSys (by decide) ?l ?c; (case l => k_is); (case c => kernel_rfl)))
    (case d28 => (refine' KP.fun_mkS (f := 284) KP.lookup_withSys (by decide) ?l ?c; (case l => k_is); (case c => kernel_rfl)))
    (case d29 => (refine' KP.fun_mkS (f := 291) KP.lookup_withSys (by decide) ?l ?c; (case l => k_is); (case c => kernel_rfl)))
    (case d30 => (refine' KP.fun_mkS (f := 296) KP.lookup_withSys (by decide) ?l ?c; (case l => k_is); (case c => kernel_rfl)))
    (case d31 => (refine' KP.fun_mkS (f := 301) KP.lookup_withSys (by decide) ?l ?c; (case l => k_is); (case c => kernel_rfl)))
    (case d32 => (refine' KP.fun_mkS (f := 306) KP.lookup_withSys (by decide) ?l ?c; (case l => k_is); (case c => kernel_rfl)))
    (case d33 => (refine' KP.fun_mkS (f := 311) KP.lookup_withSys (by decide) ?l ?c; (case l => k_is); (case c => kernel_rfl)))
    (case d34 => (refine' KP.fun_mkS (f := 318) KP.lookup_withSys (by decide) ?l ?c; (case l => k_is); (case c => kernel_rfl)))
    (case d35 => (refine' KP.fun_mkS (f := 325) KP.lookup_withSys (by decide) ?l ?c; (case l => k_is); (case c => kernel_rfl)))

