import PyProof.Rows.All
import Wide.All
import OpenK.AllK
import Wide.FinOn
import KE.DatumIndex
import HandS.ForMost
import HandS.ForExc
import HandS.ExcInit
import HandS.ExcIs
import HandS.ExcField
import HandS.IsInst
import HandS.Wide
import HandS.WideBits
import HandS.AnyAll
import HandS.Walk
import HandS.Conv
import HandS.TupAny
import KE.GoesEnumKw
import HandS.Zip
import HandS.Comp
import HandS.EndTab
import PySem.Challenge.RW_gentlerounds_k04_whole_places_tell_how_t
import HandS.StrMore
import HandS.DictSub
import KE.OsArith
import HandS.More
import HandS.ListEq
import KE.OsRunLaw
set_option Elab.async false
set_option maxRecDepth 100000
set_option maxHeartbeats 4000000
set_option linter.all false
/-! Ours: defs that are entered where no repr is under way (FnQ), their calls and bodies; repr of data. -/
namespace Gr
open PySem PySem.Spec PyProof.Rows L2

/-- a def's promise, for calls where no repr is under way -/
structure FnQ (P : Program) (w : World) (K : PySem.W.Frag) (mg : Str → Option Value) (base : Heap) (CX : CXT) (k : Nat)
    (f : Addr) (fd : FuncData) (ps : List Str) (sp : Sp) : Prop where
  len : ∀ vs H Q E, sp vs H Q E → vs.length = ps.length
  run : ∀ (A : Around) (outer : List Env) (s : Shared) (H : Hp) (args : Args) (us : List Value) (vs : List V) (Q : VK) (E : XK),
    A.guards = some [] → Room k A → Env0 P w K mg base A outer s H → BindsTo s fd args (ps.zip us) → Vals vs us → sp vs H Q E →
    codeAny (model P w) A (.call (.ref f) args) (CR CX outer P w H s Q E) s

section
variable {P : Program} {w : World} {K : PySem.W.Frag} {mg : Str → Option Value} {base : Heap}

theorem fnQ_fn {CX : CXT} {k : Nat} {f : Addr} {fd : FuncData} {ps : List Str} {sp : Sp}
    (F : FnOk P w K mg base CX k f fd ps sp) : FnQ P w K mg base CX k f fd ps sp :=
  ⟨F.len, fun A outer s H args us vs Q E _ => F.run A outer s H args us vs Q E⟩

/-- such a def by its body -/
theorem fnQ_of {CX : CXT} {k : Nat} {f : Addr} {nm ql : Str} {par : Arguments} {bd : List Stmt} {sc : Scope}
    {dV kV doc pm cdv ct oc : Value} {an od : Option Addr} {osl : Array (Option Value)} {N ps : List Str} {sp : Sp}
    (lk : K.lookup f = some ⟨oc, od, .func (PySem.W.fnOf nm ql par bd sc dV kV doc pm an cdv ct), osl⟩)
    (hcd : PySem.W.codeIn K cdv ql = true) (S : FnScope N ps sc)
    (len : ∀ vs H Q E, sp vs H Q E → vs.length = ps.length)
    (hb : ∀ (A : Around) (outer : List Env) (s : Shared) (H : Hp) (vs : List V) (Q : VK) (E : XK), A.guards = some [] →
      Room k (A.deeper (envOfC ql sc s.heap.objs.size f cdv)) → sp vs H Q E →
      ∃ t, PSs (cxOf CX P w K mg base N ql sc f cdv A outer s H E) bd t ∧
        t { nx := fun _ H' => Q .non H', rt := Q } (start N vs) H) :
    FnQ P w K mg base CX (k + 1) f (PySem.W.fnOf nm ql par bd sc dV kV doc pm an cdv ct) ps sp := by
  refine ⟨len, fun A outer s H args us vs Q E hgu hr e0 hbi r hsp => ?_⟩
  have hlen := len _ _ _ _ hsp
  have keepB : ∀ b o, base.get? b = some o → s.heap.get? b = some o := fun b o e => (e0.bs b o e).1
  have KX : K.In s.heap := e0.mod.kin.keeps keepB
  have lim : s.heap.NoLimit := e0.mod.nolimit.keeps keepB
  refine codeAny_call_function hr.depth (KX _ _ lk) rfl S.co S.gen rfl (PySem.W.codeRec_of KX hcd) (hbi _ _ _ _ ?_)
  refine wpAny_newFunctionEnv_cells S.kind (fun ⟨n, v⟩ hy => ?_) fun env he s1 x => ?_
  · exact (S.par n (List.of_mem_zip hy).1).elim .inl fun q => .inr ⟨q, PySem.W.cellsFrom_some _ _ _ (.inl q)⟩
  subst he
  refine ⟨lim.keeps x.toInCall.keep, codeAny_func ?_⟩
  obtain ⟨t, ht, hq⟩ := hb A outer s H vs Q E hgu (hr.deeper _) hsp
  have I := inv_start (CX := CX) (E := E) S hr.hd e0 hlen r x
  refine wpAny_mono (ht.run [] s1 (start N vs) H _ I hq) (fun fl s' hs => ?_) fun e s' hs => hs
  cases fl with
  | ret u =>
    obtain ⟨v, σ', H', J, rv, q⟩ := hs
    exact ⟨v, H', J.os, J.bare, J.base, J.hok, rv, q⟩
  | next =>
    obtain ⟨σ', H', J, q⟩ := hs
    exact ⟨V.non, H', J.os, J.bare, J.base, J.hok, rfl, q⟩
  | brk =>
    obtain ⟨_, _, _, q⟩ := hs
    exact q.elim
  | cont =>
    obtain ⟨_, _, _, q⟩ := hs
    exact q.elim

/-- the same in the words of Fun -/
theorem funQ {x ql : Str} {st : Stmt} {f : Addr} {fd : FuncData} {N ps : List Str} {k : Nat} {sp : Sp} (F : Fun K x ql st f fd)
    (S : FnScope N ps (defScope st)) (len : ∀ vs H Q E, sp vs H Q E → vs.length = ps.length)
    (hb : ∀ (cdv : Value) (A : Around) (outer : List Env) (s : Shared) (H : Hp) (vs : List V) (Q : VK) (E : XK), A.guards = some [] →
      Room k (A.deeper (envOfC ql (defScope st) s.heap.objs.size f cdv)) → sp vs H Q E →
      ∃ t, PSs (cxOf CX0 P w K mg base N ql (defScope st) f cdv A outer s H E).nox (defBody st) t ∧
        t { nx := fun _ H' => Q .non H', rt := Q } (start N vs) H) : FnQ P w K mg base CX0 (k + 1) f fd ps sp := by
  obtain ⟨oc, od, kV, doc, pm, an, cdv, ct, osl, rfl, lk, hcd⟩ := F.ex
  refine fnQ_of lk hcd S len fun A outer s H vs Q E hgu hr hsp => ?_
  obtain ⟨t, h, q⟩ := hb cdv A outer s H vs Q E hgu hr hsp
  exact ⟨t, h.nox, q⟩
/-- .. where exceptions may run within the body (a try) -/
theorem funQx {x ql : Str} {st : Stmt} {f : Addr} {fd : FuncData} {N ps : List Str} {k : Nat} {sp : Sp} {CX : CXT} (F : Fun K x ql st f fd)
    (S : FnScope N ps (defScope st)) (len : ∀ vs H Q E, sp vs H Q E → vs.length = ps.length)
    (hb : ∀ (cdv : Value) (A : Around) (outer : List Env) (s : Shared) (H : Hp) (vs : List V) (Q : VK) (E : XK), A.guards = some [] →
      Room k (A.deeper (envOfC ql (defScope st) s.heap.objs.size f cdv)) → sp vs H Q E →
      ∃ t, PSs (cxOf CX P w K mg base N ql (defScope st) f cdv A outer s H E) (defBody st) t ∧
        t { nx := fun _ H' => Q .non H', rt := Q } (start N vs) H) : FnQ P w K mg base CX (k + 1) f fd ps sp := by
  obtain ⟨oc, od, kV, doc, pm, an, cdv, ct, osl, rfl, lk, hcd⟩ := F.ex
  exact fnQ_of lk hcd S len fun A outer s H vs Q E hgu hr hsp => hb cdv A outer s H vs Q E hgu hr hsp
end

section
variable {X : Cx} {CX : CXT} {k : Nat} {f : Addr} {fd : FuncData} {ps : List Str} {sp : Sp} {dvs : List V} {ds : List Value} {E : XK} {x : Str} {p pos : Pos} {e : Expr} {es : List Expr} {t : TA}
theorem run_fnQ {pins : List (Addr × Obj)} {σ : L2.St} {H : Hp} {s : Shared} {Q : VK} {us : List Value} {vs : List V} (hgu : X.A.guards = some [])
    (F : FnQ X.prog X.w X.K X.mg X.base CX k f fd ps sp) (hr : Room k X.A) (hb : Binds X.K fd ps ds) (hd : Vals dvs ds) (hx : Passes CX X E)
    (I : Inv X pins σ H s) (r : Vals vs us) (h : sp (vs ++ dvs) H Q E) : wpAny (model X.prog X.w) X.A (call (.ref f) us) (EP X pins σ Q) X.xe s := by
  have r2 := Vals.append r hd
  have hl : (us ++ ds).length = ps.length := (r2.length).symm.trans (F.len _ _ _ _ h)
  refine wpAny_call (codeAny_mono (F.run X.A X.stack s H ⟨us, []⟩ (us ++ ds) (vs ++ dvs) Q E hgu hr I.env0 (hb s us I.kIn hl) r2 h) fun rr s' hq => ?_)
  match rr, hq with
  | .error e, hq => exact hx pins σ H s e s' I hq
  | .ok (.ret u), hq => exact I.after hq
/-- f(e, ..) -/
theorem pe_callQ (hgu : X.A.guards = some []) (F : FnQ X.prog X.w X.K X.mg X.base CX k f fd ps sp) (hr : Room k X.A) (hg : Gl X x) (hm : X.mg x = some (.ref f))
    (hk : PySem.W.keepIn X.K (.ref f) = true) (hb : Binds X.K fd ps ds) (hd : Vals dvs ds) (hx : Passes CX X E) (ha : PA X (e :: es) t)
    (hdb : (x == ("__debug__" : Str)) = false := by decide) (he : starEach (e :: es) X.env = (false, eval e X.env) :: starEach es X.env := by rfl)
    (hpl : (backTo pos (starEach es X.env)).any (·.1) = false := by rfl) : PE X (.Call (.Name x p) (e :: es) [] pos) (tCall sp dvs E t) :=
  ⟨fun pins s σ H Q I h => wpAny_Call_Name_kw (ld_glob I hg hm (PySem.W.callWith_K (h₀ := X.base) I.ok.mod.kin hk
    (thn (ha.run pos pins s σ H _ I h) fun us s1 ⟨vs, H1, I1, r, q⟩ => ⟨I1.kIn, run_fnQ hgu F hr hb hd hx I1 r q⟩) he hpl) hdb)⟩
end
end Gr

set_option Elab.async false
set_option maxRecDepth 100000
set_option maxHeartbeats 4000000
set_option linter.all false
/-! Ours: repr of data (lists, tuples, dicts of int and text keys, nested), where no repr is under way. -/
namespace Gr
open PySem PySem.Spec PyProof.Rows L2

mutual
/-- the value v holds the data d -/
inductive Dq (K : PySem.W.Frag) (H : Hp) : V → PyData → Prop
  | non : Dq K H .non .none
  | bl (b : Bool) : Dq K H (.bl b) (.bool b)
  | int (i : Int) : Dq K H (.int i) (.int i)
  | str (x : Str) : Dq K H (.str x) (.str x)
  | lst {a : Addr} {xs : List V} {ds : List PyData} : SqL K H a xs → DqAll K H xs ds → Dq K H (.ref a) (.list ds)
  | tup {a : Addr} {xs : List V} {ds : List PyData} : SqT K H a xs → DqAll K H xs ds → Dq K H (.ref a) (.tuple ds)
  | dic {a : Addr} {kvs : List (Key × V)} {ds : List (PyData × PyData)} : H a = some (.dK kvs) →
      DqAll K H (kvs.map fun p => kV p.1) (ds.map (·.1)) → DqAll K H (kvs.map (·.2)) (ds.map (·.2)) → Dq K H (.ref a) (.dict ds)
inductive DqAll (K : PySem.W.Frag) (H : Hp) : List V → List PyData → Prop
  | nil : DqAll K H [] []
  | cons {v : V} {vs : List V} {d : PyData} {ds : List PyData} : Dq K H v d → DqAll K H vs ds → DqAll K H (v :: vs) (d :: ds)
end

theorem SqT_same {K : PySem.W.Frag} {H H' : Hp} {a : Addr} {xs : List V} (e : Same H H') (h : SqT K H a xs) : SqT K H' a xs := by
  rcases h with (h | ⟨o, h⟩) | h
  · exact .inl (.inl (e _ _ h))
  · exact .inl (.inr ⟨o, e _ _ h⟩)
  · exact .inr h
/-- what more is tracked changes no data -/
theorem Dq.same {K : PySem.W.Frag} {H H' : Hp} {v : V} {d : PyData} (e : Same H H') (h : Dq K H v d) : Dq K H' v d :=
  Dq.rec (motive_1 := fun v d _ => Dq K H' v d) (motive_2 := fun vs ds _ => DqAll K H' vs ds)
    .non .bl .int .str (fun hs _ ih => .lst (e.seq hs) ih) (fun hs _ ih => .tup (SqT_same e hs) ih)
    (fun hd _ _ i1 i2 => .dic (e _ _ hd) i1 i2) .nil (fun _ _ i1 i2 => .cons i1 i2) h
theorem DqAll.rep {K : PySem.W.Frag} {H : Hp} {v : V} {d : PyData} (h : Dq K H v d) : ∀ n : Nat, DqAll K H (List.replicate n v) (List.replicate n d)
  | 0 => .nil
  | n + 1 => .cons h (DqAll.rep h n)

theorem keys_of_pairs {P : Program} {w : World} : ∀ {es : List DictEntry} {kvs : List (Key × Value)}, Pairs (mixKind P w) es kvs → Vals (kvs.map fun p => kV p.1) (es.map (·.key))
  | _, _, .nil => .nil
  | _, _, .cons h _ t => by
    refine .cons ?_ (keys_of_pairs t)
    rcases keyIs_shape h with ⟨i, t, e1, e2⟩ | ⟨x, t, e1, e2⟩
    · dsimp only
      rw [e1, e2]
      exact ⟨t, rfl⟩
    · dsimp only
      rw [e1, e2]
      exact ⟨t, rfl⟩
theorem vals_of_pairs {P : Program} {w : World} : ∀ {es : List DictEntry} {kvs : List (Key × Value)}, Pairs (mixKind P w) es kvs → es.map (·.val) = kvs.map (·.2)
  | _, _, .nil => rfl
  | _, _, .cons _ h t => by rw [List.map_cons, List.map_cons, h, vals_of_pairs t]
theorem kv_keys : ∀ {kvs : List (Key × V)} {vs : List (Key × Value)}, KV kvs vs → kvs.map (fun p => kV p.1) = vs.map (fun p => kV p.1)
  | _, _, .nil => rfl
  | _, _, .cons h t => by rw [List.map_cons, List.map_cons, h.1, kv_keys t]
theorem kv_vals : ∀ {kvs : List (Key × V)} {vs : List (Key × Value)}, KV kvs vs → Vals (kvs.map (·.2)) (vs.map (·.2))
  | _, _, .nil => .nil
  | _, _, .cons h t => .cons h.2 (kv_vals t)

/-- sys.modules is a dict of the written part -/
def SysM (K : PySem.W.Frag) : Prop := ∃ o es n, K.lookup sysModules = some o ∧ o.data = .dict es n

section
variable {X : Cx} {pins : List (Addr × Obj)} {σ : L2.St} {H : Hp} {s : Shared}
theorem Dq.reads (I : Inv X pins σ H s) {v : V} {d : PyData} (h : Dq X.K H v d) : ∀ u : Value, RelV v u → ∃ as, Reads s.heap u d as ∧ (SysM X.K → sysModules ∉ as) := by
  refine Dq.rec (motive_1 := fun v d _ => ∀ u : Value, RelV v u → ∃ as, Reads s.heap u d as ∧ (SysM X.K → sysModules ∉ as))
    (motive_2 := fun vs ds _ => ∀ us : List Value, Vals vs us → ∃ as, ReadsAll s.heap us ds as ∧ (SysM X.K → sysModules ∉ as)) ?_ ?_ ?_ ?_ ?_ ?_ ?_ ?_ ?_ h
  · intro u r
    cases r
    exact ⟨_, .none, fun _ z => nomatch z⟩
  · intro b u r
    cases r
    exact ⟨_, .bool b, fun _ z => nomatch z⟩
  · intro i u r
    obtain ⟨t, rfl⟩ := r
    exact ⟨_, .int i t, fun _ z => nomatch z⟩
  · intro x u r
    obtain ⟨t, rfl⟩ := r
    exact ⟨_, .str x t, fun _ z => nomatch z⟩
  · intro a xs ds hs _ ih u r
    cases r
    obtain ⟨its, rv, ⟨o, n, ho, hc, _, hd⟩, _⟩ := I.list hs
    obtain ⟨as, hr, hm⟩ := ih its rv
    refine ⟨_, .list ho hc hd hr, fun M z => ?_⟩
    rcases List.mem_cons.mp z with z | z
    · obtain ⟨o', es, n', e1, e2⟩ := id M
      have e3 := I.kIn _ _ e1
      rw [z, ho] at e3
      cases e3
      rw [hd] at e2
      cases e2
    · exact hm M z
  · intro a xs ds hs _ ih u r
    cases r
    obtain ⟨its, rv, ⟨o, ho, hc, n, hd⟩, _⟩ := I.tuple hs
    obtain ⟨as, hr, hm⟩ := ih its rv
    exact ⟨_, .tuple ho hc hd hr, hm⟩
  · intro a kvs ds hd _ _ i1 i2 u r
    cases r
    obtain ⟨_, hsm, vs, kv, o, es, ep, ho, hx, hdt, _, hp, _⟩ := (show ObjOk X.prog X.w H s.heap a (.dK kvs) from I.hok a _ hd)
    obtain ⟨as, r1, m1⟩ := i1 (es.toList.map (·.key)) (by rw [kv_keys kv]; exact keys_of_pairs hp)
    obtain ⟨bs, r2, m2⟩ := i2 (es.toList.map (·.val)) (by rw [vals_of_pairs hp]; exact kv_vals kv)
    refine ⟨_, .dict ho hx.1 hdt r1 r2, fun M z => ?_⟩
    rcases List.mem_append.mp z with z | z
    · rcases List.mem_cons.mp z with z | z
      · rw [← z] at hsm
        exact absurd hsm (by decide)
      · exact m1 M z
    · exact m2 M z
  · intro us r
    cases r
    exact ⟨_, .nil, fun _ z => nomatch z⟩
  · intro v vs d ds _ _ i1 i2 us r
    cases r with
    | cons ra rr =>
      obtain ⟨as, q1, m1⟩ := i1 _ ra
      obtain ⟨bs, q2, m2⟩ := i2 _ rr
      refine ⟨_, .cons q1 q2, fun M z => ?_⟩
      rcases List.mem_append.mp z with z | z
      · exact m1 M z
      · exact m2 M z
end

/-- repr(x), x data -/
def rRepr (K : PySem.W.Frag) : List V → Hp → VK → Prop := fun xs H Q => ∃ v d, xs = [v] ∧ Dq K H v d ∧ d.showable = true ∧ d.depth ≤ 60 ∧ d.shown.length ≤ sizeLine ∧ Q (.str d.shown) H

theorem repr_ref_only {h : Heap} {d : PyData} {a : Addr} {as : List Addr} (r : Reads h (.ref a) d as) : True := trivial
section
variable {X : Cx}
theorem call_reprD (hgu : X.A.guards = some []) (hu : X.A.units + 64 < cLine) (hM : SysM X.K) : CallR X (.builtin "repr") (rRepr X.K) := by
  intro pins s σ H xs us Q I r h
  obtain ⟨v, d, rfl, hd, hs, hdp, hz, q⟩ := h
  obtain ⟨u, rfl, ru⟩ := vals1 r
  obtain ⟨as, hr, hm⟩ := hd.reads I u ru
  have fin : ∀ h' tk t, (∀ b o, s.heap.get? b = some o → h'.get? b = some o) → EP X pins σ Q (.str d.shown t) { s with heap := h', toks := tk } :=
    fun h' tk t hk => ⟨.str d.shown, H, I.kept hk, ⟨_, rfl⟩, q⟩
  cases v with
  | ref a =>
    cases (show u = Value.ref a from ru)
    exact repr_of_reads' hr hs (fun _ => hm hM) hgu (by omega) (fun _ _ e => e) (fun h' t tk hk => fin h' tk t hk) hz
  | non =>
    cases hd
    cases (show u = Value.none from ru)
    exact PySem.P.repr_of_none (fin s.heap _ _ fun _ _ e => e)
  | bl b =>
    cases hd
    cases (show u = Value.bool b from ru)
    exact PySem.P.repr_of_bool (fin s.heap _ _ fun _ _ e => e)
  | int i =>
    cases hd
    obtain ⟨t, e⟩ := (show ∃ t, u = Value.int i t from ru)
    subst e
    exact PySem.P.repr_of_int (by simpa [PyData.showable] using hs) (fin s.heap _ _ fun _ _ e => e)
  | str x =>
    cases hd
    obtain ⟨t, e⟩ := (show ∃ t, u = Value.str x t from ru)
    subst e
    exact PySem.P.repr_of_str (fin s.heap _ _ fun _ _ e => e) (by simpa [PyData.shown] using hz)
  | byt b => cases hd
  | flt b => cases hd
  | ty n => cases hd
end
end Gr

set_option Elab.async false
set_option maxRecDepth 100000
set_option maxHeartbeats 4000000
set_option linter.all false
/-! Ours: all(..) of a generator expression over a text's signs whose element may read names of the module. -/
namespace Gr
open PySem PySem.Spec PyProof.Rows L2 GxR

/-- the element tells pb of the sign; the running def's module is at hand -/
def EltG (X : Cx) (scope : Scope) (x : Str) (elt : Expr) (pb : Nat → Bool) : Prop :=
  ∀ (en : Env) (B : Around) (E' : Value → Shared → Prop) (c : Nat) (t : Tok) (z : Shared) (m : Str → Option Value),
    en.scope = scope → en.globals = X.env.globals → (∀ b o, X.base.get? b = some o → z.heap.get? b = some o) → X.base.Ns mainGlobals X.mg → X.env.globals = mainGlobals → z.heap.Ns en.locals m → m x = some (.str ⟨#[c]⟩ t) →
    wpAny (model X.prog X.w) B (eval elt en) (fun y z' => y = .bool (pb c) ∧ Keeps z z') E' z

section
variable {X : Cx} {pins : List (Addr × Obj)} {σ : L2.St} {H : Hp} {s : Shared}
/-- the code of a generator expression, and the built-ins it sees, behind an iterator that was just made -/
theorem code_then {c P : Addr} {ps : Array Value} {o : Obj} {scope : Scope} {q : Str} {gpos : Pos} {E : Value → Shared → Prop} {R : Value → Addr → Shared → Prop} (I : Inv X pins σ H s)
    (TB : TabB X.base X.mg c P) (hcode : X.env.code = .ref c) (hP : H P = some (.tbl ps)) (ht : TriplesOk ps.toList)
    (h : ∀ (cv : Value) (k : Heap) (tk : Nat) (more : Array Value), (∀ b u, b ≠ P → (s.heap.push o).get? b = some u → k.get? b = some u) → s.heap.objs.size < k.objs.size → k.get? P = some { cls := .none, data := .fields (ps ++ more) } → TriplesOk (ps ++ more).toList → k.NoLimit →
      R cv builtinsNs { s with heap := k, toks := tk }) :
    wpAny (model X.prog X.w) X.A (genexprCode X.env gpos q scope) (fun cv z => wpAny (model X.prog X.w) X.A (builtinsFor X.env.globals X.env.builtins) (fun bi z' => R cv bi z') E z) E { s with heap := s.heap.push o } := by
  have p0 : s.heap.get? P = some { cls := .none, data := .fields ps } := I.hok P _ hP
  have p1 : (s.heap.push o).get? P = some { cls := .none, data := .fields ps } := Heap.get?_push_of_some _ p0
  have cd : PySem.W.CodeHd (s.heap.push o) c P := TB.code.keeps fun b u e => Heap.get?_push_of_some _ (I.bk b u e)
  have lim : (s.heap.push o).NoLimit := I.nolimit.push o
  have nP : cStatics ≠ P := by
    obtain ⟨_, ⟨o', es, ep, ho, hd, _⟩, _⟩ := I.nolimit
    intro e
    rw [e, p0] at ho
    cases ho
    cases hd
  have last : ∀ (cv : Value) (k : Heap) (tk : Nat) (more : Array Value), Heap.ExtBut P (s.heap.push o) k → (s.heap.push o).objs.size ≤ k.objs.size → k.get? P = some { cls := .none, data := .fields (ps ++ more) } → TriplesOk (ps ++ more).toList →
      wpAny (model X.prog X.w) X.A (builtinsFor X.env.globals X.env.builtins) (fun bi z' => R cv bi z') E { s with heap := k, toks := tk } := by
    intro cv k tk more hx hs hp ht'
    obtain ⟨bm, ob, e1, e2, e3, e4, e5, e6, e7, e8⟩ := TB.bm
    have up : ∀ b u, b ≠ P → s.heap.get? b = some u → k.get? b = some u := fun b u n e => hx b u n (Heap.get?_push_of_some _ e)
    have g : k.Ns X.env.globals X.mg := by
      rw [I.ok.glob]
      exact ((I.mod.glob.keeps I.bk).push o).extBut hx TB.gP
    refine wpAny_builtinsFor g e1 e2 (up _ _ e4 (I.bk _ _ e5)) e6 e7 e8 (h cv k tk more hx ?_ hp ht' (lim.extBut hx nP))
    rw [Heap.size_push] at hs
    exact hs
  cases hf : codeAmong gpos ps.toList with
  | none =>
    refine wpAny_genexprCodeX hcode (cd.code p1 ht) (cd.tab p1) hf fun c' k tk hx hge hlt hco _ htab _ => ?_
    obtain ⟨_, _, _, _, _, _, _, _, _, _, _, _, _, _, _, _, _, _, _, htr, _⟩ := hco
    exact last _ k tk _ hx (Nat.le_of_lt (Nat.lt_of_le_of_lt hge hlt)) htab.2 htr
  | some cv =>
    refine wpAny_genexprCode_hit hcode (cd.code p1 ht) hf ?_
    have e : ps ++ #[] = ps := by simp
    exact last cv (s.heap.push o) s.toks #[] (fun b u _ e => e) (Nat.le_refl _) (by rw [e]; exact p1) (by rw [e]; exact ht)

theorem genG {c P : Addr} {elt iter : Expr} {x : Str} {px gpos : Pos} {scope : Scope} {pb : Nat → Bool} {te : TE} {k : Nat} {W : Value → Shared → Prop} {R : Str → Hp → Prop}
    (hr : Room k X.A) (TB : TabB X.base X.mg c P) (hcode : X.env.code = .ref c) (S : GenS X.env scope x) (hi : PE X iter te) (hel : EltG X scope x elt pb)
    (hs : ∀ v, genFold iter X.env v = pure v) (I : Inv X pins σ H s) (h : te σ H fun v H1 => ∃ a : Str, v = .str a ∧ TabG H1 P ∧ R a H1)
    (hQ : ∀ a H1 g z, R a H1 → Ready X pins σ H1 P a pb g z → W (.ref g) z) :
    wpAny (model X.prog X.w) X.A (eval (.GeneratorExp elt [⟨.Name x px, iter, [], 0⟩] scope gpos) X.env) W X.xe s := by
  have dr : X.A.depth < recursionLimit := Nat.lt_of_le_of_lt (by omega) hr.dp
  refine wpAny_GeneratorExp_walksQ hr.hd S.co (closure_ok S.free) S.cell S.dot S.loc S.kind dr (thn (hi.run pins s σ H _ I h) ?_) hs
  rintro xv s1 ⟨v, H1, I1, r1, a, rfl, ⟨ps, hP, ht⟩, q1⟩
  obtain ⟨t, rfl⟩ := id r1
  refine wpAny_pyIter_str fun o St Wk st0 => ⟨I1.nolimit.push o, code_then I1 TB hcode hP ht fun cv h3 tk more up lt hp ht' lim => ?_⟩
  have p0 : s1.heap.get? P = some { cls := .none, data := .fields ps } := I1.hok P _ hP
  have pl : P < s1.heap.objs.size := Heap.lt_size p0
  have at1 : ∀ b, b ∈ [s1.heap.objs.size] → b = s1.heap.objs.size := fun b hb => List.mem_singleton.mp hb
  have ne1 : s1.heap.objs.size ≠ P := fun e => Nat.lt_irrefl _ (e ▸ pl)
  have cl : cStatics < s1.heap.objs.size := let ⟨_, n, _⟩ := I1.nolimit; n.lt
  have up0 : ∀ b u, b ≠ P → s1.heap.get? b = some u → h3.get? b = some u := fun b u n e => up b u n (Heap.get?_push_of_some _ e)
  refine ⟨s1.heap.objs.size, [s1.heap.objs.size], [s1.heap.objs.size], a.cps.size, SignAt a, St, fun _ => true, fun i y => ∃ d, a.cps[i]? = some d ∧ y = .bool (pb d), rfl, Wk, ?_, fun b hb => ?_, lim, fun z => ?_, fun href hh => ?_, ?_⟩
  · refine (Wk X.A hr.hd).frame _ _ _ st0 fun b hb u e => up b u ?_ e
    rw [at1 b hb]
    exact ne1
  · rw [at1 b hb]
    exact lt
  · rw [at1 _ z] at cl
    exact Nat.lt_irrefl _ cl
  · constructor
    · intro B E' i v z m _ _ _ _ _
      rw [List.forIn_nil]
      exact wpAny_pure ⟨rfl, keeps_refl _⟩
    · intro B E' i v z m _ hv _ hn hm hk
      obtain ⟨d, u, hd, rfl⟩ := hv
      refine wpAny_mono (hel _ B E' d u z m rfl rfl (fun b w' e => ?_) I1.mod.glob I1.ok.glob hn hm) (fun y z' r => ⟨⟨d, hd, r.1⟩, r.2⟩) fun _ _ e => e
      obtain ⟨e1, e2⟩ := I1.bs b w' e
      have nb : b ≠ P := fun z => by
        rw [z, hP] at e2
        cases e2
      have lb : b < s1.heap.objs.size := Heap.lt_size e1
      refine hk b (List.mem_range.mpr (Nat.lt_trans lb lt)) (fun z => ?_) _ (hh _ _ (up0 b w' nb e1))
      rw [at1 b z] at lb
      exact Nat.lt_irrefl _ lb
  · intro g h5 tk5 gs gb ag sz5 k5 W5 hat
    simp only [GxR.passing_true, List.length_range] at W5
    refine hQ a H1 g _ q1 ⟨_, _, _, _, _, W5.in4_1, hat, ?_, fun s' mv => ?_⟩
    · rintro j y z Q' E' ⟨i, hij, d, hd, rfl⟩ q
      obtain ⟨hj, ej⟩ := List.getElem?_eq_some_iff.mp hij
      rw [List.getElem_range] at ej
      cases ej
      have e : a.cps.toList[j]? = some d := (Array.getElem?_toList (xs := a.cps) (i := j)).trans hd
      have q' : Q' (trF pb a.cps.toList j) z := q
      rw [trF_some e] at q'
      exact wpAny_truthy_bool q'
    · have nw : ∀ b u, s1.heap.get? b = some u → b ∉ h3.objs.size :: [s1.heap.objs.size] := fun b u e hb => by
        have l := Heap.lt_size e
        have l2 : s1.heap.objs.size < h3.objs.size := lt
        rcases List.mem_cons.mp hb with z | z
        · rw [z] at l
          exact Nat.lt_asymm l l2
        · rw [at1 b z] at l
          exact Nat.lt_irrefl _ l
      have J := inv_tab (more := more) (h' := s'.heap) (g' := s'.gens) (d' := s'.drawn) (t' := s'.toks) I1 hP (fun b u n e => mv.heap b u (nw b u e) (k5 b u (up0 b u n e))) (mv.heap P _ (nw P _ p0) (k5 P _ hp)) (AllBare.movedS (I1.bare.push gb) mv)
      have es : ({ s1 with heap := s'.heap, gens := s'.gens, drawn := s'.drawn, toks := s'.toks } : Shared) = s' := by
        obtain ⟨_, _, _, _, _⟩ := s'
        have := mv.os
        dsimp only at this
        rw [this]
      rw [es] at J
      exact ⟨upd H1 P (.tbl (ps ++ more)), ⟨⟨_, upd_same, ht'⟩, fun b hb => upd_ne hb⟩, J⟩

/-- all(elt for x in e), e a text -/
theorem pe_allG {c P : Addr} {elt iter : Expr} {x : Str} {px p pos gpos : Pos} {scope : Scope} {pb : Nat → Bool} {te : TE} {k : Nat}
    (hr : Room k X.A) (hg : Gl X "all") (hm : X.mg "all" = none) (TB : TabB X.base X.mg c P) (hcode : X.env.code = .ref c) (S : GenS X.env scope x) (hi : PE X iter te) (hel : EltG X scope x elt pb)
    (hs : ∀ v, genFold iter X.env v = pure v)
    (he : starEach [.GeneratorExp elt [⟨.Name x px, iter, [], 0⟩] scope gpos] X.env = (false, eval (.GeneratorExp elt [⟨.Name x px, iter, [], 0⟩] scope gpos) X.env) :: starEach [] X.env := by rfl) :
    PE X (.Call (.Name "all" p) [.GeneratorExp elt [⟨.Name x px, iter, [], 0⟩] scope gpos] [] pos) (tAllS P pb te) := by
  refine ⟨fun pins s σ H Q I h => wpAny_Call_Name_kw (ld_blt I hg hm boot_all (PyProof.Rows.callWith_builtin1 ?_ he (by rfl)))⟩
  rw [he]
  show wpAny _ _ (spliced ((false, eval (.GeneratorExp elt [⟨.Name x px, iter, [], 0⟩] scope gpos) X.env) :: backTo pos (starEach [] X.env))) _ _ s
  refine Calls.spliced_cons (genG (R := fun a H1 => ∀ H2, Tabbed P H1 H2 → Q (.bl (a.cps.toList.all pb)) H2) hr TB hcode S hi hel hs I h ?_)
  rintro a H1 g z hR ⟨fp, wr, G, F, St, W, hst, htr, hI⟩
  refine Calls.spliced_nil (call_all_walkS (W.self 0 _ _ _ hst ⟨g, fp, wr, G, _, F, St, _, rfl, W, hst, htr, fun s' mv => ?_⟩))
  obtain ⟨H2, hT, J⟩ := hI s' mv
  rw [all_signs a pb]
  exact ⟨.bl _, H2, J, rfl, hR H2 hT⟩
end

/-- x == 'k' -/
theorem eg_eq {X : Cx} {scope : Scope} {x k : Str} {j : Nat} {p1 p2 p3 : Pos} (hk : scope.kind = .function) (hl : scope.names.lookup x = some .local) (hd : (x == ("__debug__" : Str)) = false := by decide) :
    EltG X scope x (.Compare (.Name x p1) [.Eq] [.Constant (.str k) j p2] p3) (fun c => [c] == k.cps.toList) :=
  fun en B E' c t z m hs _ _ _ _ hn hm => elt_eq (prog := X.prog) (w := X.w) (scope := scope) hk hl hd en B E' c t z m hs hn hm
/-- x in G, G a text of the module -/
theorem eg_in {X : Cx} {scope : Scope} {x G : Str} {y : Str} {t0 : Tok} {p1 p2 p3 : Pos} (hk : scope.kind = .function) (hl : scope.names.lookup x = some .local) (hG : scope.names.lookup G = some .globalImplicit) (hmG : X.mg G = some (.str y t0))
    (hd : (x == ("__debug__" : Str)) = false := by decide) (hd2 : (G == ("__debug__" : Str)) = false := by decide) :
    EltG X scope x (.Compare (.Name x p1) [.In] [.Name G p2] p3) (fun c => decide (c ∈ y.cps.toList)) := by
  intro en B E' c t z m hs hg hb hns hgl hn hm
  have hkind : en.scope.kind = .function := by rw [hs]; exact hk
  have hkx : en.scope.names.lookup x = some .local := by rw [hs]; exact hl
  have hkG : en.kindOf G = some .globalImplicit := by
    show en.scope.names.lookup G = _
    rw [hs]
    exact hG
  refine wpAny_Compare1 (wpAny_Name (wpAny_loadName_local hkind hkx hn hm ?_) hd) (by rfl)
  refine Calls.Name_function_global hkind hkG (Calls.loadGlobal_global (by rw [hg, hgl]; exact hns.keeps hb) hmG ?_) hd2
  refine PyProof.Rows.in_str ⟨?_, keeps_refl _⟩
  rw [PySem.StrLaws.found_one]
/-- a or b -/
theorem eg_or {X : Cx} {scope : Scope} {x : Str} {a b : Expr} {pa pb : Nat → Bool} {pos : Pos} (ha : EltG X scope x a pa) (hb : EltG X scope x b pb) : EltG X scope x (.BoolOp .Or [a, b] pos) (fun c => pa c || pb c) := by
  intro en B E' c t z m hs hg hbs hns hgl hn hm
  refine BoolOp_or (wpAny_mono (ha en B _ c t z m hs hg hbs hns hgl hn hm) (fun y z' ⟨e, ⟨h', tk, e2, kp⟩⟩ => ?_) fun _ _ e => e)
  subst e
  subst e2
  refine wpAny_truthy_bool ?_
  cases hc : pa c with
  | true => exact ⟨by show _ = Value.bool (pa c || pb c); rw [hc]; rfl, h', tk, rfl, kp⟩
  | false =>
    refine BoolOp_one (wpAny_mono (hb en B E' c t _ m hs hg (fun b o e => kp b o (hbs b o e)) hns hgl (hn.keeps kp) hm) (fun y z' ⟨e, ⟨h2, tk2, e2, kp2⟩⟩ => ?_) fun _ _ e => e)
    subst e
    subst e2
    exact ⟨by show _ = Value.bool (pa c || pb c); rw [hc]; rfl, h2, tk2, rfl, fun b o q => kp2 b o (kp b o q)⟩
end Gr

set_option Elab.async false
set_option maxRecDepth 100000
set_option maxHeartbeats 4000000
set_option linter.all false
/-! Ours: enumerate over a text, with or without a start told by its name; o.f |= e; a def called with keywords alone. -/
namespace Gr
open PySem PySem.Spec PyProof.Rows L2

/-- pairs (c + i, the sign at i) of a text, each a new one -/
def Itx (x : Str) (c : Int) : It := ⟨fun i _ => i < x.cps.size, fun i H v H' => ∃ T d, v = .ref T ∧ H T = none ∧ H' = upd H T (.tup [.int (c + (i : Nat)), .str ⟨#[d]⟩]) ∧ x.cps[i]? = some d, fun i _ => x.cps.size = i⟩
def YTx (x : Str) (c : Int) : Nat → Hp → V → Hp → Prop := fun i H v H' => ∃ T d, v = .ref T ∧ H T = none ∧ H' = upd H T (.tup [.int (c + (i : Nat)), .str ⟨#[d]⟩]) ∧ x.cps[i]? = some d
theorem walk_tx {x : Str} {c : Int} : Walk (Itx x c) x.cps.size (fun _ => True) (YTx x c) :=
  ⟨fun _ _ hi _ => hi, fun _ _ => rfl, fun _ _ _ _ _ _ y => y⟩
theorem turn_tx {P : Program} {w : World} {K : PySem.W.Frag} {elts : List Expr} {kk : Nat} {tpos : Pos} {e it : Addr} {x : Str} {t : Tok} {c : Int} :
    Turn P w K (.Tuple elts kk tpos) (Itx x c) [e, it] e (fun i h => (∃ old, IsEnum h e it (c + (i : Int)) old) ∧ h.IsStrIter it (strIterType x) x t i ∧ e ≠ it) where
  mem := List.mem_cons_self
  obj := by
    rintro i h ⟨⟨old, he⟩, ⟨o, ho, hc, hd⟩, _⟩ b hb
    rcases List.mem_cons.mp hb with z | z
    · rw [z]
      exact ⟨_, he, fun v q => nomatch q⟩
    · rw [List.mem_singleton.mp z]
      exact ⟨o, ho, fun v q => by rw [hd] at q; cases q⟩
  keep := by
    rintro i h h' ⟨⟨old, he⟩, ⟨o, ho, r⟩, ne⟩ k
    exact ⟨⟨old, k e (List.mem_cons_self) _ he⟩, ⟨o, k it (by simp) _ ho, r⟩, ne⟩
  item := by
    intro X hP hw hK hc i pins s σ H E I hf st hg
    subst hP hw hK
    obtain ⟨⟨old, he⟩, hit, ne⟩ := st
    have el : e < s.heap.objs.size := Heap.lt_size he
    have il : it < s.heap.objs.size := let ⟨_, q, _⟩ := hit; Heap.lt_size q
    refine wpAny_pyNext_enum_itemC (Draws.text (A := X.A.in1) (I.ok.hd hc) it x t) he hit hg ne (fun z => ne (List.mem_singleton.mp z)) fun u h' tk hu ho hit' hT hz hk => ?_
    obtain ⟨d, tu, hd, rfl⟩ := hu
    refine ⟨_, rfl, wpAny_letOwnedTupleGo_enum (s := { s with heap := h', toks := tk + 1 }) ho fun h'' he' sb => ?_⟩
    have nT : s.heap.objs.size ≠ e := Nat.ne_of_gt el
    have hT2 : h''.get? s.heap.objs.size = some { cls := .type "tuple", data := .seq #[.int (c + (i : Int)) tk, .str ⟨#[d]⟩ tu] } := (sb.2 _ nT).trans hT
    have new : ObjOk X.prog X.w (upd H s.heap.objs.size (.tup [.int (c + (i : Nat)), .str ⟨#[d]⟩])) h'' s.heap.objs.size (.tup [.int (c + (i : Nat)), .str ⟨#[d]⟩]) :=
      ⟨by show 2 ≤ sizeLine; decide, _, .cons ⟨_, rfl⟩ (.cons ⟨_, rfl⟩ .nil), ⟨_, hT2, rfl, _, rfl⟩⟩
    have I1 : Inv X pins σ (upd H s.heap.objs.size (.tup [.int (c + (i : Nat)), .str ⟨#[d]⟩])) { s with heap := h'', toks := tk + 1 } := by
      refine I.turnedNew (ch := [e, it]) (fun b ob hb q => ?_) hf (Nat.le_refl _) new
      have n1 : b ≠ e := fun z => hb (z ▸ List.mem_cons_self)
      have n2 : b ≠ it := fun z => hb (by rw [z]; exact List.mem_cons_of_mem _ List.mem_cons_self)
      exact (sb.2 b n1).trans (hk b ob n1 n2 q)
    refine ⟨.ref s.heap.objs.size, _, I1, rfl, ⟨_, d, rfl, I.hok.fresh (Nat.le_refl _), rfl, hd⟩, ⟨⟨.str ⟨#[d]⟩ tu, ?_⟩, ?_, ne⟩, fun b hb => ?_⟩
    · have q : c + ((i + 1 : Nat) : Int) = c + (i : Int) + 1 := by omega
      rw [q]
      exact he'
    · obtain ⟨o, q, r⟩ := hit'
      exact ⟨o, (sb.2 it (Ne.symm ne)).trans q, r⟩
    · have lb : b < s.heap.objs.size := by
        rcases List.mem_cons.mp hb with z | z
        · rw [z]
          exact el
        · rw [List.mem_singleton.mp z]
          exact il
      rw [upd_ne (Nat.ne_of_lt lb)]
      exact (hf b hb).1
  done := by
    intro X hP hw hK hc i pins s σ H E I hf st hg
    subst hP hw hK
    obtain ⟨⟨old, he⟩, hit, ne⟩ := st
    have hi : x.cps.size = i := hg
    subst hi
    have D := Draws.text (prog := X.prog) (w := X.w) (A := X.A.in1) (I.ok.hd hc) it x t
    obtain ⟨f0, f1, f2, f3, f4, f5⟩ := hf it (by simp)
    exact wpAny_pyNext_enum_endD D he hit fun h' eb => ⟨rfl, I.turned (t' := s.toks) (fun b o hb q => eb b o hb q) f0 f1 f3 f4 f5⟩
  self := fun A i s Q E ⟨⟨_, he⟩, _⟩ h => wpAny_pyIter_enum he h

/-- enumerate(e), e a text; enumerate(e, start=k) -/
def iEnumS (ta : TA) : TI := fun σ H R => ta σ H fun vs H1 => ∃ x, vs = [.str x] ∧ R (Itx x 0) H1
def iEnumK (ta tk : TA) : TI := fun σ H R => ta σ H fun vs H1 => tk σ H1 fun ks H2 => ∃ x k, vs = [.str x] ∧ ks = [.int k] ∧ -(2 ^ 63) ≤ k ∧ k < 2 ^ 63 ∧ R (Itx x k) H2
section
variable {X : Cx} {e f : Expr} {ta tk : TA} {p pos tpos kpos : Pos} {elts : List Expr} {kk : Nat}
theorem begun_tx {pins : List (Addr × Obj)} {σ : L2.St} {H : Hp} {s : Shared} {R : It → Hp → Prop} {x : Str} {t : Tok} {k : Int} {h' : Heap} (I : Inv X pins σ H s)
    (he : IsEnum h' (s.heap.objs.size + 1) s.heap.objs.size k .none) (hit : h'.IsStrIter s.heap.objs.size (strIterType x) x t 0) (hk : ∀ b o, s.heap.get? b = some o → h'.get? b = some o) (q : R (Itx x k) H) :
    PIE X pins σ (.Tuple elts kk tpos) R (.ref (s.heap.objs.size + 1)) { s with heap := h' } := by
  refine ⟨_, [s.heap.objs.size + 1, s.heap.objs.size], _, _, H, rfl, I.kept (t' := s.toks) hk, turn_tx (x := x) (t := t) (c := k), ⟨⟨.none, ?_⟩, hit, Nat.succ_ne_self _⟩, fun b hb => ?_, q⟩
  · have z : k + ((0 : Nat) : Int) = k := by omega
    rw [z]
    exact he
  · have lb : s.heap.objs.size ≤ b := by
      rcases List.mem_cons.mp hb with z | z
      · rw [z]
        exact Nat.le_succ _
      · rw [List.mem_singleton.mp z]
        exact Nat.le_refl _
    exact I.fpOk lb (I.hok.fresh lb)
theorem pi_enumS (hg : Gl X "enumerate") (hm : X.mg "enumerate" = none) (ha : PA X [e] ta) (hs : starEach [e] X.env = [(false, eval e X.env)] := by rfl) :
    PI X (.Tuple elts kk tpos) (.Call (.Name "enumerate" p) [e] [] pos) (iEnumS ta) := by
  refine ⟨fun pins s σ H R I h => Call_ (ld_blt I hg hm boot_enumerate (PyProof.Rows.callWith_type1 (thn (ha.run pos pins s σ H _ I h) ?_) hs rfl))⟩
  rintro us s1 ⟨vs, H1, I1, r1, x, rfl, q⟩
  obtain ⟨u, rfl, ru⟩ := vals1 r1
  obtain ⟨t, rfl⟩ := ru
  exact call_enumerate_str fun h' he hit _ hk => wpAny_pyIter_enum he (begun_tx I1 he hit hk q)
theorem pi_enumK (hg : Gl X "enumerate") (hm : X.mg "enumerate" = none) (ha : PA X [e] ta) (hk : PK X [⟨some ("start" : Str), f, kpos⟩] tk) (hs : starEach [e] X.env = (false, eval e X.env) :: starEach [] X.env := by rfl)
    (hpl : ((backTo pos (starEach [e] X.env)).any (·.1) || (backToKw pos (keywordEach [⟨some ("start" : Str), f, kpos⟩] X.env)).any (·.1.isNone)) = false := by rfl) :
    PI X (.Tuple elts kk tpos) (.Call (.Name "enumerate" p) [e] [⟨some ("start" : Str), f, kpos⟩] pos) (iEnumK ta tk) := by
  refine ⟨fun pins s σ H R I h => wpAny_Call_Name_kw (ld_blt I hg hm boot_enumerate ?_)⟩
  refine PySem.W.callWith_of (P := fun _ => True) hpl (fun _ _ => ⟨.machine, .inr (.inl rfl), fun {A' Q' E' s'} _ z => wpAny_pure z⟩) (PyProof.Rows.evalArgs_kw2 (by rfl) (thn (ha.run pos pins s σ H _ I h) ?_) hs)
  rintro us s1 ⟨vs, H1, I1, r1, q⟩
  refine thn (hk.run pos pins s1 σ H1 _ I1 q) ?_
  rintro ws s2 ⟨zs, H2, I2, r2, x, k, rfl, rfl, k0, k1, q⟩
  refine ⟨trivial, ?_⟩
  obtain ⟨u, rfl, ru⟩ := vals1 r1
  obtain ⟨t, rfl⟩ := ru
  obtain ⟨u2, rfl, ru2⟩ := vals1 r2
  obtain ⟨t2, rfl⟩ := ru2
  refine enum_begins_start (begins_text x t) trivial k0 k1 fun h' he ho _ hk => wpAny_pyIter_enum he (begun_tx I2 he ⟨_, ho, rfl, rfl⟩ hk q)
end

/-! ### o.f |= e -/
def rOr : V → V → Hp → VK → Prop := fun x y H Q => ∃ i j, x = .int i ∧ y = .int j ∧ Q (.int (Builtin.bitOr i j)) H
theorem in_or {X : Cx} : InOp X .BitOr rOr := by
  rintro pins s σ H x y u v Q I rx ry ⟨i, j, rfl, rfl, q⟩
  obtain ⟨t, rfl⟩ := id rx
  obtain ⟨t', rfl⟩ := id ry
  exact PyProof.Rows.ior_int ⟨.int (Builtin.bitOr i j), H, I.tok _, ⟨_, rfl⟩, q⟩

/-! ### f(k = e, ..) -/
section
variable {X : Cx} {CX : CXT} {k : Nat} {f : Addr} {fd : FuncData} {ps ks : List Str} {sp : Sp} {E : XK} {x : Str} {p pos : Pos} {tk : TA} {g : List Value → List Value → List Value} {gV : List V → List V → List V} {kws : List Keyword}
theorem pe_callK0 (F : FnOk X.prog X.w X.K X.mg X.base CX k f fd ps sp) (hr : Room k X.A) (hg : Gl X x) (hm : X.mg x = some (.ref f)) (hk : PySem.W.keepIn X.K (.ref f) = true) (hb : KBinds X.K fd ps ks g gV) (hx : Passes CX X E) (hkw : PK X kws tk)
    (hall : (backToKw pos (keywordEach kws X.env)).all (·.1.isSome) = true := by rfl) (hks : (backToKw pos (keywordEach kws X.env)).filterMap (·.1) = ks := by rfl) (hdb : (x == ("__debug__" : Str)) = false := by decide)
    (hpl : ((backTo pos (starEach [] X.env)).any (·.1) || (backToKw pos (keywordEach kws X.env)).any (·.1.isNone)) = false := by rfl) :
    PE X (.Call (.Name x p) [] kws pos) (tCallK sp gV E tNil tk) := by
  refine ⟨fun pins s σ H Q I h => wpAny_Call_Name_kw (ld_glob I hg hm ?_ hdb)⟩
  refine PySem.W.callWith_KW0 (h₀ := X.base) I.ok.mod.kin hk hall (thn (hkw.run pos pins s σ H _ I h) ?_) hpl
  rintro ws s2 ⟨zs, H2, I2, rz, q⟩
  refine ⟨I2.kIn, ?_⟩
  rw [hks]
  exact run_fnk F hr hb hx I2 .nil rz q
end
end Gr

set_option Elab.async false
set_option maxRecDepth 100000
set_option maxHeartbeats 4000000
set_option linter.all false
/-! Ours: zip of a list and a tuple. -/
namespace Gr
open PySem PySem.Spec PyProof.Rows L2

theorem paired_at {α β : Type} {r : α → β → Prop} : ∀ {xs : List α} {ys : List β}, Paired r xs ys → ∀ {i : Nat} {x : α}, xs[i]? = some x → ∃ y, ys[i]? = some y ∧ r x y
  | _, _, .nil, i, x, h => by cases h
  | _, _, .cons a b, 0, x, h => ⟨_, rfl, by cases h; exact a⟩
  | _, _, .cons a b, i + 1, x, h => paired_at b h
theorem paired_len {α β : Type} {r : α → β → Prop} : ∀ {xs : List α} {ys : List β}, Paired r xs ys → xs.length = ys.length
  | _, _, .nil => rfl
  | _, _, .cons a b => congrArg (· + 1) (paired_len b)
theorem plain_is {h : Heap} {a : Addr} {its : Array Value} (p : PlainL h a its) : h.IsList a its := let ⟨o, n, h1, h2, _, h4⟩ := p; ⟨o, h1, h2, n, h4⟩
theorem in5 {N c : Nat} (h : c ∈ [N + 4, N + 2, N + 3, N, N + 1]) : N ≤ c ∧ c ≤ N + 4 := by
  simp only [List.mem_cons, List.not_mem_nil, or_false] at h
  omega
/-- pairs of the list at a and the tuple at b -/
def ItzM (K : PySem.W.Frag) (a b : Addr) (xs ys : List V) : It :=
  ⟨fun i H => SqL K H a xs ∧ SqT K H b ys ∧ i < xs.length ∧ i < ys.length,
   fun i H v H' => ∃ T x y, v = .ref T ∧ H T = none ∧ H' = upd H T (.tup [x, y]) ∧ xs[i]? = some x ∧ ys[i]? = some y,
   fun i H => SqL K H a xs ∧ SqT K H b ys ∧ i ≤ xs.length ∧ i ≤ ys.length ∧ (i = xs.length ∨ i = ys.length)⟩
def YzM (xs ys : List V) : Nat → Hp → V → Hp → Prop := fun i H v H' => ∃ T x y, v = .ref T ∧ H T = none ∧ H' = upd H T (.tup [x, y]) ∧ xs[i]? = some x ∧ ys[i]? = some y
theorem walk_zipM {K : PySem.W.Frag} {a b : Addr} {xs ys : List V} {n : Nat} (h1 : n = xs.length) (h2 : n = ys.length) : Walk (ItzM K a b xs ys) n (fun H => SqL K H a xs ∧ SqT K H b ys) (YzM xs ys) :=
  ⟨fun i H hi q => ⟨q.1, q.2, by omega, by omega⟩, fun H q => ⟨q.1, q.2, by omega, by omega, .inl h1⟩, fun _ _ _ _ _ _ y => y⟩
theorem turn_zipM {P : Program} {w : World} {K : PySem.W.Frag} {elts : List Expr} {kk : Nat} {tpos : Pos} {a b : Addr} {xs ys : List V} {N : Nat} (ha : a < N) (hb : b < N) :
    Turn P w K (.Tuple elts kk tpos) (ItzM K a b xs ys) [N + 4, N + 2, N + 3, N, N + 1] (N + 4) (fun i h => IsZip h (N + 4) (N + 2) (N + 3) .none ∧ IsTupOf2 h (N + 2) (.ref N) (.ref (N + 1)) ∧ (∃ x y, IsTupOf2 h (N + 3) x y) ∧ h.IsListIter N a i ∧ h.IsTupleIter (N + 1) b i) where
  mem := List.mem_cons_self
  obj := by
    rintro i h ⟨hz, hTI, ⟨_, _, hTO⟩, ⟨o1, e1, _, d1⟩, ⟨o2, e2, _, d2⟩⟩ b hb
    simp only [List.mem_cons, List.not_mem_nil, or_false] at hb
    rcases hb with rfl | rfl | rfl | rfl | rfl
    · exact ⟨_, hz, fun v q => nomatch q⟩
    · exact ⟨_, hTI, fun v q => nomatch q⟩
    · exact ⟨_, hTO, fun v q => nomatch q⟩
    · exact ⟨_, e1, fun v q => by rw [d1] at q; cases q⟩
    · exact ⟨_, e2, fun v q => by rw [d2] at q; cases q⟩
  keep := by
    rintro i h h' ⟨hz, hTI, ⟨x, y, hTO⟩, ⟨o1, e1, r1⟩, ⟨o2, e2, r2⟩⟩ k
    exact ⟨k _ (by simp) _ hz, k _ (by simp) _ hTI, ⟨x, y, k _ (by simp) _ hTO⟩, ⟨o1, k _ (by simp) _ e1, r1⟩, ⟨o2, k _ (by simp) _ e2, r2⟩⟩
  item := by
    intro X hP hw hK hc i pins s σ H E I hf st hg
    subst hP hw hK
    obtain ⟨hz, hTI, ⟨x, y, hTO⟩, it1, it2⟩ := st
    obtain ⟨hL, hT, l1, l2⟩ := hg
    obtain ⟨v1, r1, p1, m1⟩ := I.list hL
    obtain ⟨v2, r2, p2, m2⟩ := I.tuple hT
    have g1 : xs[i]? = some xs[i] := List.getElem?_eq_getElem l1
    have g2 : ys[i]? = some ys[i] := List.getElem?_eq_getElem l2
    obtain ⟨u1, w1, q1⟩ := paired_at r1 g1
    obtain ⟨u2, w2, q2⟩ := paired_at r2 g2
    have n1 : i < v1.toArray.size := by rw [List.size_toArray, ← paired_len r1]; exact l1
    have n2 : i < v2.toArray.size := by rw [List.size_toArray, ← paired_len r2]; exact l2
    have sep := zip_sep2 (N := N) (fp1 := [a]) (fp2 := [b]) (fun c hc => by rw [List.mem_singleton.mp hc]; exact ha) (fun c hc => by rw [List.mem_singleton.mp hc]; exact hb)
    have zl : N + 4 < s.heap.objs.size := Heap.lt_size hz
    refine wpAny_pyNext_zipD2_item sep (Draws.list (A := X.A.in1) (I.ok.hd hc) N a (Nat.ne_of_lt ha) v1.toArray) (Draws.tuple (A := X.A.in1) (I.ok.hd hc) (N + 1) b (Nat.ne_of_lt (Nat.lt_succ_of_lt hb)) v2.toArray)
      hz hTI hTO ⟨it1, ?_⟩ ⟨it2, ?_⟩ n1 n2 fun x1 x2 h' tk e1 e2 hz' hTO' st1 st2 hT' hs' hk => ?_
    · exact plain_is p1
    · exact p2
    have ex1 : x1 = u1 := by
      have : v1[i]? = some x1 := (List.getElem?_toArray (xs := v1) (i := i)).symm.trans e1
      rw [w1] at this
      exact (Option.some.inj this).symm
    have ex2 : x2 = u2 := by
      have : v2[i]? = some x2 := (List.getElem?_toArray (xs := v2) (i := i)).symm.trans e2
      rw [w2] at this
      exact (Option.some.inj this).symm
    refine ⟨_, rfl, wpAny_letOwnedTupleGo_zip hz' fun h'' hz'' sb => ?_⟩
    have nT : s.heap.objs.size ≠ N + 4 := Nat.ne_of_gt zl
    have hT2 : h''.get? s.heap.objs.size = some { cls := .type "tuple", data := .seq #[x1, x2] } := (sb.2 _ nT).trans hT'
    have new : ObjOk X.prog X.w (upd H s.heap.objs.size (.tup [xs[i], ys[i]])) h'' s.heap.objs.size (.tup [xs[i], ys[i]]) :=
      ⟨by show 2 ≤ sizeLine; decide, _, .cons (ex1 ▸ q1) (.cons (ex2 ▸ q2) .nil), ⟨_, hT2, rfl, _, rfl⟩⟩
    have I1 : Inv X pins σ (upd H s.heap.objs.size (.tup [xs[i], ys[i]])) { s with heap := h'', toks := tk } := by
      refine I.turnedNew (ch := [N + 4, N + 2, N + 3, N, N + 1]) (fun b ob hb q => ?_) hf (Nat.le_refl _) new
      simp only [List.mem_cons, List.not_mem_nil, or_false, not_or] at hb
      exact (sb.2 b hb.1).trans (hk b ob hb.1 hb.2.2.1 hb.2.2.2.1 hb.2.2.2.2 q)
    have tInz : N + 2 ≠ N + 4 := by omega
    have n23 : N + 2 ≠ N + 3 := by omega
    have n20 : N + 2 ≠ N := by omega
    have n21 : N + 2 ≠ N + 1 := by omega
    have tOnz : N + 3 ≠ N + 4 := by omega
    have i1nz : N ≠ N + 4 := by omega
    have i2nz : N + 1 ≠ N + 4 := by omega
    refine ⟨.ref s.heap.objs.size, _, I1, rfl, ⟨_, _, _, rfl, I.hok.fresh (Nat.le_refl _), rfl, g1, g2⟩, ⟨hz'', ?_, ⟨x1, x2, (sb.2 _ tOnz).trans hTO'⟩, ?_, ?_⟩, fun c hc => ?_⟩
    · exact (sb.2 _ tInz).trans (hk _ _ tInz n23 n20 n21 hTI)
    · obtain ⟨o, q, r⟩ := st1.1
      exact ⟨o, (sb.2 _ i1nz).trans q, r⟩
    · obtain ⟨o, q, r⟩ := st2.1
      exact ⟨o, (sb.2 _ i2nz).trans q, r⟩
    · have lc : c < s.heap.objs.size := Nat.lt_of_le_of_lt (in5 hc).2 zl
      rw [upd_ne (Nat.ne_of_lt lc)]
      exact (hf c hc).1
  done := by
    intro X hP hw hK hc i pins s σ H E I hf st hg
    subst hP hw hK
    obtain ⟨hz, hTI, ⟨x, y, hTO⟩, it1, it2⟩ := st
    obtain ⟨hL, hT, l1, l2, e⟩ := hg
    obtain ⟨v1, r1, p1, m1⟩ := I.list hL
    obtain ⟨v2, r2, p2, m2⟩ := I.tuple hT
    have s1 : v1.toArray.size = xs.length := by rw [List.size_toArray, ← paired_len r1]
    have s2 : v2.toArray.size = ys.length := by rw [List.size_toArray, ← paired_len r2]
    have sep := zip_sep2 (N := N) (fp1 := [a]) (fp2 := [b]) (fun c hc => by rw [List.mem_singleton.mp hc]; exact ha) (fun c hc => by rw [List.mem_singleton.mp hc]; exact hb)
    refine wpAny_pyNext_zipD2_end sep (Draws.list (A := X.A.in1) (I.ok.hd hc) N a (Nat.ne_of_lt ha) v1.toArray) (Draws.tuple (A := X.A.in1) (I.ok.hd hc) (N + 1) b (Nat.ne_of_lt (Nat.lt_succ_of_lt hb)) v2.toArray)
      hz hTI hTO ⟨it1, ?_⟩ ⟨it2, ?_⟩ (by omega) (by omega) (by omega) fun h' tk hk => ⟨rfl, I.turnedL (ch := [N + 4, N + 2, N + 3, N, N + 1]) (fun c o hc q => ?_) hf⟩
    · exact plain_is p1
    · exact p2
    · simp only [List.mem_cons, List.not_mem_nil, or_false, not_or] at hc
      exact hk c o hc.1 hc.2.2.1 hc.2.2.2.1 hc.2.2.2.2 q
  self := fun A i s Q E ⟨hz, _⟩ h => wpAny_pyIter_zip hz h
/-- zip(xs, ys), a list and a tuple -/
def iZipM (K : PySem.W.Frag) (ta : TA) : TI := fun σ H R => ta σ H fun vs H1 => ∃ a b xs ys, vs = [.ref a, .ref b] ∧ SqL K H1 a xs ∧ SqT K H1 b ys ∧ R (ItzM K a b xs ys) H1
section
variable {X : Cx} {e e2 : Expr} {ta : TA} {p pos tpos : Pos} {elts : List Expr} {kk : Nat}
theorem pi_zipM (hg : Gl X "zip") (hm : X.mg "zip" = none) (ha : PA X [e, e2] ta) (hs : starEach [e, e2] X.env = (false, eval e X.env) :: starEach [e2] X.env := by rfl) (hpl : ((backTo pos (starEach [e2] X.env)).any (·.1)) = false := by rfl) :
    PI X (.Tuple elts kk tpos) (.Call (.Name "zip" p) [e, e2] [] pos) (iZipM X.K ta) := by
  refine ⟨fun pins s σ H R I h => Call_ (ld_blt I hg hm boot_zip (PyProof.Rows.callWith_type1 (thn (ha.run pos pins s σ H _ I h) ?_) hs hpl))⟩
  rintro us s1 ⟨vs, H1, I1, r1, a, b, xs, ys, rfl, hL, hT, q⟩
  obtain ⟨v1, q1, p1, m1⟩ := I1.list hL
  obtain ⟨v2, q2, p2, m2⟩ := I1.tuple hT
  match us, r1 with
  | _, .cons (b := _) e1 (.cons (b := _) e2 .nil) =>
  cases e1
  cases e2
  have la : a < s1.heap.objs.size := let ⟨_, _, e, _⟩ := p1; Heap.lt_size e
  have lb : b < s1.heap.objs.size := let ⟨_, e, _⟩ := p2; Heap.lt_size e
  refine zip_begins2 (begins_list a v1.toArray) (begins_tuple b v2.toArray) ?_ ?_ fun h' hz hTI hTO e1 e2 hs hk => wpAny_pyIter_zip hz ⟨_, [s1.heap.objs.size + 4, s1.heap.objs.size + 2, s1.heap.objs.size + 3, s1.heap.objs.size, s1.heap.objs.size + 1], _, _, H1, rfl, I1.kept (t' := s1.toks) hk, turn_zipM (xs := xs) (ys := ys) la lb, ⟨hz, hTI, ⟨_, _, hTO⟩, ⟨_, e1, rfl, rfl⟩, ⟨_, e2, rfl, rfl⟩⟩, fun c hc => ?_, q⟩
  · exact plain_is p1
  · exact p2
  · have lc : s1.heap.objs.size ≤ c := (in5 hc).1
    exact I1.fpOk lc (I1.hok.fresh lc)
end
end Gr

set_option Elab.async false
set_option maxRecDepth 100000
set_option maxHeartbeats 4000000
set_option linter.all false
/-! Ours: texts as lists of signs. -/
namespace Gr
open PySem PySem.Spec PyProof.Rows L2
theorem same_upd {H : Hp} {a : Addr} {o : HO} (h : H a = none) : Same H (upd H a o) := fun b u e => by
  rw [upd_ne (ne_of_none e h)]
  exact e
theorem tx_ext {a b : Str} (h : a.cps.toList = b.cps.toList) : a = b := by
  obtain ⟨⟨x⟩⟩ := a
  obtain ⟨⟨y⟩⟩ := b
  cases (show x = y from h)
  rfl
theorem tx_len (z : Str) : z.length = z.cps.toList.length := rfl
theorem tx_app (a b : Str) : (a ++ b).cps.toList = a.cps.toList ++ b.cps.toList := by
  rw [PySem.Str.cps_append]
  exact Array.toList_append
theorem tx_starts (z : Str) (c : Nat) : Txt.startswith z ⟨#[c]⟩ = (z.cps.toList[0]? == some c) := by
  have e := PySem.StrLaws.subAt_one z c 0
  unfold Txt.startswith
  rw [Bool.eq_iff_iff, Bool.and_eq_true, decide_eq_true_eq, beq_iff_eq]
  exact e
theorem tx_last (z : Str) (h : 1 ≤ z.length) : z.cps.toList[z.length - 1]? = z.cps.toList.getLast? := by
  rw [List.getLast?_eq_getElem?]
  rfl
theorem tx_ends (z : Str) (c : Nat) : Txt.endswith z ⟨#[c]⟩ = (z.cps.toList.getLast? == some c) := by
  have e := PySem.StrLaws.subAt_one z c (z.length - 1)
  unfold Txt.endswith
  rw [Bool.eq_iff_iff, Bool.and_eq_true, decide_eq_true_eq, beq_iff_eq]
  have l1 : (⟨#[c]⟩ : Str).length = 1 := rfl
  rw [l1]
  rw [l1] at e
  constructor
  · rintro ⟨h1, h2⟩
    rw [← tx_last z (by omega)]
    exact e.mp ⟨by omega, h2⟩
  · intro h
    have hp : 1 ≤ z.length := by
      rw [tx_len]
      cases q : z.cps.toList with
      | nil =>
        rw [q] at h
        cases h
      | cons a r => simp
    rw [← tx_last z hp] at h
    have := e.mpr h
    exact ⟨by omega, this.2⟩
theorem tx_sub0 (z : Str) (n : Nat) : (Builtin.Str.strSub z 0 n).cps.toList = z.cps.toList.take n := by
  unfold Builtin.Str.strSub
  simp
theorem tx_suffix (z : Str) (c : Nat) : (Txt.removesuffix z ⟨#[c]⟩).cps.toList = if z.cps.toList.getLast? == some c then z.cps.toList.dropLast else z.cps.toList := by
  have e := tx_ends z c
  unfold Txt.endswith at e
  have l1 : (⟨#[c]⟩ : Str).length = 1 := rfl
  rw [l1] at e
  unfold Txt.removesuffix
  rw [l1]
  have e2 : (decide (1 ≤ z.length) && Builtin.Str.subAt z ⟨#[c]⟩ (z.length - 1)) = (z.cps.toList.getLast? == some c) := by
    rw [← e, Nat.zero_add]
  rw [e2]
  cases hq : z.cps.toList.getLast? == some c with
  | false => rfl
  | true =>
    have hp : 1 ≤ z.length := by
      rw [hq] at e2
      rw [Bool.and_eq_true, decide_eq_true_eq] at e2
      exact e2.1
    have ne : ¬ (z.length - 1 - 0 == z.length) = true := by
      rw [beq_iff_eq]
      omega
    show (if (z.length - 1 - 0 == z.length) = true then z else Builtin.Str.strSub z 0 (z.length - 1)).cps.toList = _
    rw [if_neg ne, tx_sub0, if_pos rfl, List.dropLast_eq_take]
    rfl
/-! slices -/
theorem cut_head (z : Str) : (cutS z none (some (-1))).cps.toList = z.cps.toList.dropLast := by
  unfold cutS
  show ((z.cps.toList.drop 0).take (HT.sIx z.length z.length (some (-1)) - 0)) = _
  rw [List.drop_zero, List.dropLast_eq_take, Nat.sub_zero]
  congr 1
  unfold HT.sIx
  rw [tx_len]
  simp
  omega
theorem cut_from (z : Str) (n : Nat) : (cutS z (some (n : Int)) none).cps.toList = z.cps.toList.drop n := by
  unfold cutS
  show ((z.cps.toList.drop (HT.sIx z.length 0 (some (n : Int)))).take (HT.sIx z.length z.length none - HT.sIx z.length 0 (some (n : Int)))) = _
  rw [HT.sIx_nat, HT.sIx_none, tx_len]
  by_cases h : n ≤ z.cps.toList.length
  · rw [Nat.min_eq_left h]
    exact List.take_of_length_le (by rw [List.length_drop]; exact Nat.le_refl _)
  · rw [Nat.min_eq_right (by omega), List.drop_of_length_le (Nat.le_refl _), List.drop_of_length_le (by omega), List.take_nil]
theorem cut_to (z : Str) (n : Nat) : (cutS z none (some (n : Int))).cps.toList = z.cps.toList.take n := by
  unfold cutS
  show ((z.cps.toList.drop 0).take (HT.sIx z.length z.length (some (n : Int)) - 0)) = _
  rw [List.drop_zero, HT.sIx_nat, tx_len, Nat.sub_zero]
  by_cases h : n ≤ z.cps.toList.length
  · rw [Nat.min_eq_left h]
  · rw [Nat.min_eq_right (by omega), List.take_of_length_le (Nat.le_refl _), List.take_of_length_le (by omega)]
theorem lit_slash : ("/" : Str) = ⟨#[47]⟩ := by decide +kernel
theorem lit_dollar : ("$" : Str) = ⟨#[36]⟩ := by decide +kernel
theorem lit_star : ("*" : Str) = ⟨#[42]⟩ := by decide +kernel
theorem str_eq_iff (a b : Str) : a = b ↔ a.cps.toList = b.cps.toList := ⟨fun e => by rw [e], tx_ext⟩
theorem one_inj {a b : Nat} : (⟨#[a]⟩ : Str) = ⟨#[b]⟩ ↔ a = b := by
  constructor
  · intro e
    have := congrArg (fun z : Str => z.cps.toList) e
    simpa using this
  · rintro rfl
    rfl
/-! heaps, comprehensions -/
theorem same_into {H H2 : Hp} {D : Addr} {o : HO} (hD : H D = none) (s : Same H H2) : Same H (upd H2 D o) := fun b u e => (upd_ne (ne_of_none e hD)).trans (s b u e)
theorem wipe1 {σ : L2.St} {j : Nat} {v : Option V} : wipe ((wipe σ [j]).set j v) [j] = wipe σ [j] := by simp [wipe]
/-- o.f within a comprehension's block -/
theorem pe_fldB {X : Cx} {s : Shared} {H : Hp} {sc : Scope} {en : Env} {fp : List Addr} {e : Expr} {f : Str} {pos : Pos} {ta : TE} (he : PE (X.blk s H sc en fp) e ta) (hb : attributeBase e f (X.blk s H sc en fp).env (eval e (X.blk s H sc en fp).env) = eval e (X.blk s H sc en fp).env) :
    PE (X.blk s H sc en fp) (.Attribute e f pos) (tFld X.K ta f) := pe_fld he hb
/-! parts that only look -/
theorem and_pure {ta tb : TE} {σ : L2.St} {H : Hp} {Q : VK} (c1 c2 : Bool) (h1 : ∀ Q' : VK, Q' (.bl c1) H → ta σ H Q') (h2 : c1 = true → ∀ Q' : VK, Q' (.bl c2) H → tb σ H Q') (q : Q (.bl (c1 && c2)) H) : tAndV ta tb σ H Q := by
  refine h1 _ ⟨c1, rfl, ?_⟩
  cases c1 with
  | true => exact if_pos rfl ▸ h2 rfl _ q
  | false => exact q
theorem or_pure {ta tb : TE} {σ : L2.St} {H : Hp} {Q : VK} (c1 c2 : Bool) (h1 : ∀ Q' : VK, Q' (.bl c1) H → ta σ H Q') (h2 : c1 = false → ∀ Q' : VK, Q' (.bl c2) H → tb σ H Q') (q : Q (.bl (c1 || c2)) H) : tOrV ta tb σ H Q := by
  refine h1 _ ⟨c1, rfl, ?_⟩
  cases c1 with
  | false => exact if_neg Bool.false_ne_true ▸ h2 rfl _ q
  | true => exact q
def tTruB (K : PySem.W.Frag) (te : TE) : TT := fun σ H Q => te σ H fun x H' => ∃ k, TruV K x H' k ∧ Q k H'
theorem pt_truthB {X : Cx} {s : Shared} {H : Hp} {sc : Scope} {en : Env} {fp : List Addr} {e : Expr} {te : TE} (he : PE (X.blk s H sc en fp) e te) (hi : ∀ whole, isTrue e (X.blk s H sc en fp).env whole = (do let v ← whole; standAt e.pos; holding [v] (truthy v))) :
    PT (X.blk s H sc en fp) e (tTruB X.K te) := pt_truth he hi
end Gr

set_option linter.all false
/-! Ours: the mathematics of patterns: a table of truths by rows, by columns; places as bits of a number. -/
namespace PM
/-- one row more: the sign c of the body, star or not; r the string, p the row ahead -/
def nrow (star : Bool) (c : Option Nat) (r : List Nat) (p : Nat → Bool) : Nat → Bool
  | 0 => p 0 && star
  | k + 1 => if star then p (k + 1) || nrow star c r p k else p k && (c == r[k]?)
def isSt (b : List Nat) (i : Nat) : Bool := b[i]? == some 42
/-- the first i signs of b fit the first k of r -/
def F (b r : List Nat) : Nat → Nat → Bool
  | 0 => fun k => k == 0
  | i + 1 => nrow (isSt b i) b[i]? r (F b r i)
theorem F_zero (b r : List Nat) (k : Nat) : F b r 0 k = (k == 0) := rfl
theorem F_succ_zero (b r : List Nat) (i : Nat) : F b r (i + 1) 0 = (F b r i 0 && isSt b i) := rfl
theorem F_succ (b r : List Nat) (i k : Nat) : F b r (i + 1) (k + 1) = if isSt b i then F b r i (k + 1) || F b r (i + 1) k else F b r i k && (b[i]? == r[k]?) := rfl

/-- a body that begins with a sign fits nothing at the empty string -/
theorem F_begin {b : List Nat} (r : List Nat) (h : isSt b 0 = false) : ∀ i, F b r i 0 = (i == 0)
  | 0 => rfl
  | 1 => by rw [F_succ_zero, h]; cases F b r 0 0 <;> rfl
  | i + 2 => by
    rw [F_succ_zero, F_begin r h (i + 1)]
    rfl

/-- only the first k signs of the string matter -/
theorem F_local {b r r' : List Nat} : ∀ (i k : Nat), (∀ j, j < k → r[j]? = r'[j]?) → F b r i k = F b r' i k
  | 0, k, _ => rfl
  | i + 1, 0, h => by rw [F_succ_zero, F_succ_zero, F_local i 0 h]
  | i + 1, k + 1, h => by
    have h' : ∀ j, j < k → r[j]? = r'[j]? := fun j hj => h j (Nat.lt_succ_of_lt hj)
    rw [F_succ, F_succ, F_local i (k + 1) h, F_local (i + 1) k h', F_local i k h', h k (Nat.lt_succ_self k)]
/-- only the first i signs of the body matter -/
theorem F_body {b b' r : List Nat} : ∀ (i k : Nat), (∀ j, j < i → b[j]? = b'[j]?) → F b r i k = F b' r i k
  | 0, k, _ => rfl
  | i + 1, 0, h => by
    rw [F_succ_zero, F_succ_zero, F_body i 0 (fun j hj => h j (Nat.lt_succ_of_lt hj))]
    unfold isSt
    rw [h i (Nat.lt_succ_self i)]
  | i + 1, k + 1, h => by
    have h' : ∀ j, j < i → b[j]? = b'[j]? := fun j hj => h j (Nat.lt_succ_of_lt hj)
    rw [F_succ, F_succ, F_body i (k + 1) h', F_body (i + 1) k h, F_body i k h']
    unfold isSt
    rw [h i (Nat.lt_succ_self i)]
/-- a star at the end takes one sign more -/
theorem F_star {b r : List Nat} {i k : Nat} (h : isSt b i = true) (f : F b r (i + 1) k = true) : F b r (i + 1) (k + 1) = true := by
  rw [F_succ, if_pos h, f, Bool.or_true]
theorem F_stars {b r : List Nat} {i k : Nat} (h : isSt b i = true) (f : F b r (i + 1) k = true) : ∀ n, F b r (i + 1) (k + n) = true
  | 0 => f
  | n + 1 => F_star h (F_stars h f n)
/-- without stars just the string itself is fitted -/
theorem F_plain {b r : List Nat} (h : ∀ i, isSt b i = false) : ∀ i k, i ≤ b.length → k ≤ r.length → (F b r i k = true ↔ b.take i = r.take k)
  | 0, 0, _, _ => by simp [F]
  | 0, k + 1, _, hk => by
    rw [F_zero]
    constructor
    · intro e
      cases e
    · intro e
      have := congrArg List.length e
      rw [List.length_take, List.length_take] at this
      omega
  | i + 1, 0, hi, _ => by
    rw [F_succ_zero, h i, Bool.and_false]
    constructor
    · intro e
      cases e
    · intro e
      have := congrArg List.length e
      rw [List.length_take, List.length_take] at this
      omega
  | i + 1, k + 1, hi, hk => by
    have hi' : i < b.length := hi
    have hk' : k < r.length := hk
    rw [F_succ, h i, if_neg Bool.false_ne_true, Bool.and_eq_true, F_plain h i k (Nat.le_of_lt hi') (Nat.le_of_lt hk'), List.getElem?_eq_getElem hi', List.getElem?_eq_getElem hk',
      beq_iff_eq, Option.some_inj, List.take_succ_eq_append_getElem hi', List.take_succ_eq_append_getElem hk']
    constructor
    · rintro ⟨e1, e2⟩
      rw [e1, e2]
    · intro e
      have el : (b.take i).length = (r.take k).length := by
        have := congrArg List.length e
        rw [List.length_append, List.length_append] at this
        simpa using this
      obtain ⟨e1, e2⟩ := List.append_inj e el
      exact ⟨e1, by simpa using e2⟩

/-! ### numbers as sets of places -/
def bits (f : Nat → Bool) : Nat → Nat
  | 0 => 0
  | n + 1 => bits f n ||| (if f n then 2 ^ n else 0)
theorem testBit_pow (n i : Nat) : (2 ^ n).testBit i = decide (n = i) := Nat.testBit_two_pow ..
theorem bits_test (f : Nat → Bool) : ∀ n i, (bits f n).testBit i = (decide (i < n) && f i)
  | 0, i => by simp [bits]
  | n + 1, i => by
    unfold bits
    rw [Nat.testBit_or, bits_test f n i]
    by_cases hi : i = n
    · subst hi
      cases hf : f i <;> simp [testBit_pow]
    · have h1 : decide (i < n + 1) = decide (i < n) := by
        apply decide_eq_decide.mpr
        omega
      rw [h1]
      cases hf : f n
      · simp
      · have : ¬ n = i := fun e => hi e.symm
        simp [testBit_pow, this]
theorem bits_lt (f : Nat → Bool) (n : Nat) : bits f n < 2 ^ n := by
  induction n with
  | zero => exact Nat.zero_lt_one
  | succ n ih =>
    unfold bits
    refine Nat.or_lt_two_pow (Nat.lt_trans ih (Nat.pow_lt_pow_right (by decide) (Nat.lt_succ_self n))) ?_
    cases f n
    · exact Nat.two_pow_pos _
    · exact Nat.pow_lt_pow_right (by decide) (Nat.lt_succ_self n)
theorem eq_of_test {a b : Nat} (h : ∀ i, a.testBit i = b.testBit i) : a = b := Nat.eq_of_testBit_eq h
theorem lt_of_test {a n : Nat} (h : ∀ i, n ≤ i → a.testBit i = false) : a < 2 ^ n := Nat.lt_pow_two_of_testBit a h

/-- the body's stars; those places kept by any sign; the places that a sign leads on from -/
def starsOf (b : List Nat) (n : Nat) : Nat := bits (isSt b) n
def heldOf (b : List Nat) (n : Nat) : Nat := bits (isSt b) n * 2
def moveOf (b : List Nat) (c : Nat) (n : Nat) : Nat := bits (fun i => !isSt b i && (b[i]? == some c)) n

theorem mul2_test (a i : Nat) : (a * 2).testBit i = (decide (0 < i) && a.testBit (i - 1)) := by
  have := Nat.testBit_mul_two_pow a i 1
  rw [Nat.pow_one] at this
  rw [this]
  rfl
theorem mul2_or (a b : Nat) : (a ||| b) * 2 = a * 2 ||| b * 2 := by
  refine eq_of_test fun i => ?_
  rw [mul2_test, Nat.testBit_or, Nat.testBit_or, mul2_test, mul2_test]
  cases decide (0 < i) <;> simp

/-- one turn of the closing -/
def grow (st s : Nat) : Nat := s ||| (s &&& st) * 2
theorem grow_test (st s i : Nat) : (grow st s).testBit i = (s.testBit i || (decide (0 < i) && (s.testBit (i - 1) && st.testBit (i - 1)))) := by
  unfold grow
  rw [Nat.testBit_or, mul2_test, Nat.testBit_and]
/-- what closing comes to -/
def clo (st s : Nat → Bool) : Nat → Bool
  | 0 => s 0
  | i + 1 => s (i + 1) || (clo st s i && st i)
theorem clo_of {st s c : Nat} {s0 : Nat → Bool} (h0 : ∀ i, s0 i = true → s.testBit i = true) (h1 : ∀ i, s.testBit i = true → clo (st.testBit ·) s0 i = true) (hf : grow st s = s) :
    ∀ i, s.testBit i = clo (st.testBit ·) s0 i
  | 0 => by
    rw [Bool.eq_iff_iff]
    exact ⟨h1 0, fun e => h0 0 e⟩
  | i + 1 => by
    rw [Bool.eq_iff_iff]
    refine ⟨h1 _, fun e => ?_⟩
    unfold clo at e
    rw [Bool.or_eq_true] at e
    rcases e with e | e
    · exact h0 _ e
    · rw [← clo_of (c := c) h0 h1 hf i] at e
      rw [← hf, grow_test]
      simp only [Nat.succ_sub_one, Nat.zero_lt_succ, decide_true, Bool.true_and]
      rw [e, Bool.or_true]
theorem grow_sub {st s : Nat} {s0 : Nat → Bool} (h1 : ∀ i, s.testBit i = true → clo (st.testBit ·) s0 i = true) : ∀ i, (grow st s).testBit i = true → clo (st.testBit ·) s0 i = true := by
  intro i e
  rw [grow_test, Bool.or_eq_true] at e
  rcases e with e | e
  · exact h1 i e
  · cases i with
    | zero => cases e
    | succ i =>
      simp only [Nat.succ_sub_one, Nat.zero_lt_succ, decide_true, Bool.true_and, Bool.and_eq_true] at e
      unfold clo
      rw [h1 i e.1, e.2]
      simp
theorem grow_ge (st s : Nat) : s ≤ grow st s := Nat.left_le_or
theorem grow_keeps {st s : Nat} {i : Nat} (h : s.testBit i = true) : (grow st s).testBit i = true := by
  rw [grow_test, h]
  rfl
theorem grow_lt {st s n : Nat} (hs : s < 2 ^ (n + 1)) (ht : st < 2 ^ n) : grow st s < 2 ^ (n + 1) := by
  unfold grow
  refine Nat.or_lt_two_pow hs ?_
  have h1 : s &&& st < 2 ^ n := Nat.lt_of_le_of_lt Nat.and_le_right ht
  rw [Nat.pow_succ]
  omega

/-- a step: the bits ahead of closing -/
def stepped (b : List Nat) (n s c : Nat) : Nat := (s &&& moveOf b c n) * 2 ||| (s &&& heldOf b n)
theorem stepped_test (b : List Nat) (n s c i : Nat) : (stepped b n s c).testBit i = (decide (0 < i) && ((s.testBit (i - 1) && (moveOf b c n).testBit (i - 1)) || (s.testBit i && (bits (isSt b) n).testBit (i - 1)))) := by
  unfold stepped heldOf
  rw [Nat.testBit_or, mul2_test, Nat.testBit_and, Nat.testBit_and, mul2_test]
  cases decide (0 < i) <;> simp
/-- the places at the first k signs, as a number -/
def Pl (b r : List Nat) (k s : Nat) : Prop := ∀ i, s.testBit i = (decide (i ≤ b.length) && F b r i k)
theorem clo_step {b r : List Nat} {k s c : Nat} (hs : Pl b r k s) (hc : r[k]? = some c) : ∀ i, clo ((starsOf b b.length).testBit ·) ((stepped b b.length s c).testBit ·) i = (decide (i ≤ b.length) && F b r i (k + 1))
  | 0 => by
    unfold clo
    rw [stepped_test, F_zero]
    simp
  | i + 1 => by
    have sti : (starsOf b b.length).testBit i = isSt b i := by
      unfold starsOf
      rw [bits_test]
      by_cases hi : i < b.length
      · simp [hi]
      · unfold isSt
        rw [List.getElem?_eq_none (Nat.le_of_not_lt hi)]
        simp
    unfold clo
    rw [clo_step hs hc i, stepped_test, sti]
    simp only [Nat.succ_sub_one, Nat.zero_lt_succ, decide_true, Bool.true_and]
    rw [hs i, hs (i + 1)]
    unfold moveOf
    rw [bits_test, bits_test]
    by_cases hi : i < b.length
    · have h1 : decide (i ≤ b.length) = true := decide_eq_true (Nat.le_of_lt hi)
      have h2 : decide (i + 1 ≤ b.length) = true := decide_eq_true hi
      have h3 : decide (i < b.length) = true := decide_eq_true hi
      rw [h1, h2, h3, F_succ, hc]
      cases hst : isSt b i
      · simp
      · simp [Bool.or_comm]
    · have h2 : decide (i + 1 ≤ b.length) = false := decide_eq_false (by omega)
      have h3 : decide (i < b.length) = false := decide_eq_false hi
      have h4 : isSt b i = false := by
        unfold isSt
        rw [List.getElem?_eq_none (Nat.le_of_not_lt hi)]
        rfl
      rw [h2, h3, h4]
      simp
end PM

set_option Elab.async false
set_option maxRecDepth 100000
set_option maxHeartbeats 4000000
set_option linter.all false
/-! Ours: the law's call where tables of code objects may grow, by a promise for calls where no repr is under way. -/
namespace Gr
open PySem PySem.Spec PyProof.Rows L2 GxR
/-- what is tracked at the law's call: the tables at ts, and the script where it is not written -/
def startH (ts : List Addr) (a : Addr) (o : Option HO) : Hp := fun b => if b ∈ ts then some (.tbl #[]) else if b = a then o else none
theorem startH_tab {ts : List Addr} {a b : Addr} {o : Option HO} (h : b ∈ ts) : startH ts a o b = some (.tbl #[]) := if_pos h
theorem startH_at {ts : List Addr} {a : Addr} {o : Option HO} (h : a ∉ ts) : startH ts a o a = o := (if_neg h).trans (if_pos rfl)
theorem startH_inv {ts : List Addr} {a b : Addr} {o : Option HO} {u : HO} (h : startH ts a o b = some u) : (b ∈ ts ∧ u = .tbl #[]) ∨ (b ∉ ts ∧ b = a ∧ o = some u) := by
  unfold startH at h
  by_cases h1 : b ∈ ts
  · rw [if_pos h1] at h
    exact .inl ⟨h1, (Option.some.inj h).symm⟩
  · rw [if_neg h1] at h
    by_cases h2 : b = a
    · rw [if_pos h2] at h
      exact .inr ⟨h1, h2, h⟩
    · rw [if_neg h2] at h
      cases h
abbrev tabO (more : Array Value) : Obj := { cls := .none, data := .fields more }
theorem law_callQT {P : Program} {w : World} {K : PySem.W.Frag} {mg mb : Str → Option Value} {k : Nat} {fa a : Addr} {cs : List (Addr × Addr)} {fd : FuncData} {x : Str} {sp : Sp} {z : Shared} {vs : List Value} {ns : List Int}
    (KX : K.In z.heap) (G : z.heap.Ns mainGlobals mg) (B : z.heap.Ns builtinsNs mb) (B2 : ∀ x : Str, x ≠ "__name__" → mb x = bootBuiltins x) (L : z.heap.NoLimit) (G0 : z.gens = #[])
    (hT : ∀ p ∈ cs, z.heap.get? p.2 = some (tabO #[])) (nT : ∀ p ∈ cs, K.lookup p.2 = none) (C : ∀ p ∈ cs, PySem.W.CodeHd z.heap p.1 p.2)
    (M : ∃ (bm : Addr) (ob : Obj), mg "__builtins__" = some (.ref bm) ∧ bm ≠ builtinsNs ∧ z.heap.get? bm = some ob ∧ ob.cls = .type "module" ∧ ob.dict = some builtinsNs ∧ ob.data = .plain)
    (ha : z.heap.get? a = some { cls := .type "list", data := .seq vs.toArray }) (hi : IntsAre vs ns) (hl : ns.length ≤ sizeLine) (hr : Room k callerA)
    (F : ∀ base : Heap, K.In base → base.Ns mainGlobals mg → (∀ p ∈ cs, TabB base mg p.1 p.2) → FnQ P w K mg base CX0 k fa fd [x] sp) (hb : ∀ (s : Shared) (u : Value), BindsTo s fd ⟨[u], []⟩ [(x, u)])
    (hsp : ∀ H : Hp, (∀ p ∈ cs, H p.2 = some (.tbl #[])) → SqL K H a (ns.map V.int) → sp [.ref a] H (fun v _ => v = .bl true) fun _ _ _ => False) :
    codeAny (model P w) callerA (.call (.ref fa) ⟨[.ref a], []⟩) (fun r s' => r = .ok (.ret (.bool true)) ∧ OldK z.heap s'.heap ∧ s'.os = z.os ∧ AllBare s'.gens) z := by
  generalize hts : cs.map (·.2) = ts
  have inT : ∀ p ∈ cs, p.2 ∈ ts := fun p hp => by rw [← hts]; exact List.mem_map.mpr ⟨p, hp, rfl⟩
  have ofT : ∀ b ∈ ts, ∃ p ∈ cs, p.2 = b := fun b hb => by rw [← hts] at hb; exact List.mem_map.mp hb
  have atT : ∀ b ∈ ts, z.heap.get? b = some (tabO #[]) := fun b hb => by obtain ⟨p, hp, e⟩ := ofT b hb; rw [← e]; exact hT p hp
  have rv := vals_ints hi
  have lenV := hi.length
  have aT : a ∉ ts := fun q => by
    have e := ha.symm.trans (atT a q)
    cases e
  -- in both ways the script may stand: written, or tracked
  have core : ∀ o : Option HO, (o = none ∨ o = some (.frz { cls := .type "list", data := .seq vs.toArray } (.lst (ns.map V.int)))) → (o ≠ none → K.lookup a = none) → SqL K (startH ts a o) a (ns.map V.int) →
      codeAny (model P w) callerA (.call (.ref fa) ⟨[.ref a], []⟩) (fun r s' => r = .ok (.ret (.bool true)) ∧ OldK z.heap s'.heap ∧ s'.os = z.os ∧ AllBare s'.gens) z := by
    intro o ho hK hS
    generalize hH : startH ts a o = H at hS
    have tab : ∀ b ∈ ts, H b = some (.tbl #[]) := fun b q => by rw [← hH]; exact startH_tab q
    have inv : ∀ {b : Addr} {u : HO}, H b = some u → (b ∈ ts ∧ u = .tbl #[]) ∨ (b ∉ ts ∧ b = a ∧ u = .frz { cls := .type "list", data := .seq vs.toArray } (.lst (ns.map V.int)) ∧ K.lookup a = none) := fun {b u} e => by
      rw [← hH] at e
      rcases startH_inv e with q | ⟨q1, q2, q3⟩
      · exact .inl q
      · rcases ho with e1 | e1
        · rw [e1] at q3; cases q3
        · rw [e1] at q3
          exact .inr ⟨q1, q2, (Option.some.inj q3).symm, hK (by rw [e1]; exact fun q => nomatch q)⟩
    have hok : HOk P w H z.heap := fun b u e => by
      rcases inv e with ⟨q, rfl⟩ | ⟨_, rfl, rfl, _⟩
      · exact atT b q
      · exact ⟨ha, by rw [List.length_map]; exact hl, vs, _, rv, ha⟩
    -- what is neither a list nor an empty table is seen in the base
    have seen : ∀ {b : Addr} {ob : Obj}, z.heap.get? b = some ob → (∀ us n, ob.data ≠ .seq us n) → ob.data ≠ .fields #[] → (hidT z.heap H).get? b = some ob := fun {b ob} e h1 h2 => hidT_get e (by
      cases q : H b with
      | none => rfl
      | some u =>
        rcases inv q with ⟨q1, _⟩ | ⟨_, rfl, _, _⟩
        · rw [atT b q1] at e
          cases e
          exact absurd rfl h2
        · rw [ha] at e
          cases e
          exact absurd rfl (h1 _ _))
    have seenD : ∀ {b : Addr} {m : Str → Option Value}, z.heap.Ns b m → (hidT z.heap H).Ns b m := fun {b m} ⟨ob, es, ep, e, d, r⟩ =>
      ⟨ob, es, ep, seen e (fun us n q => by rw [d] at q; cases q) (fun q => by rw [d] at q; cases q), d, r⟩
    have KB : K.In (hidT z.heap H) := fun b ob e => hidT_get (KX b ob e) (by
      cases q : H b with
      | none => rfl
      | some u =>
        rcases inv q with ⟨q1, _⟩ | ⟨_, rfl, _, q2⟩
        · obtain ⟨p, hp, ep⟩ := ofT b q1
          rw [← ep, nT p hp] at e
          cases e
        · rw [q2] at e
          cases e)
    have MB : Mod K mg (hidT z.heap H) := ⟨KB, seenD G, ⟨mb, seenD B, B2⟩, let ⟨mc, h1, h2⟩ := L; ⟨mc, seenD h1, h2⟩⟩
    have TB : ∀ p ∈ cs, TabB (hidT z.heap H) mg p.1 p.2 := fun p hp => by
      refine ⟨?_, ?_, fun q => ?_⟩
      · obtain ⟨ob, us, file, tf, flags, tg, inF, text, tt, e1, r1, r2, r3, rest⟩ := C p hp
        refine ⟨ob, us, file, tf, flags, tg, inF, text, tt, seen e1 (fun us' n q => by rw [r2] at q; cases q) (fun q => ?_), r1, r2, r3, rest⟩
        rw [r2] at q
        cases q
        cases r3
      · obtain ⟨bm, ob, b1, b2, b3, b4, b5, b6⟩ := M
        refine ⟨bm, ob, b1, b2, fun q => ?_, fun q => ?_, seen b3 (fun us n q => by rw [b6] at q; cases q) (fun q => by rw [b6] at q; cases q), b4, b5, b6⟩
        · obtain ⟨ob', es, ep, e, hd, _⟩ := G
          rw [q, e] at b3
          cases b3
          rw [hd] at b6
          cases b6
        · rw [q, hT p hp] at b3
          cases b3
          cases b6
      · obtain ⟨ob, es, ep, e, hd, _⟩ := G
        rw [q, hT p hp] at e
        cases e
        cases hd
    have nofr : ∀ b, b ∉ frs ([] : List Env) := fun b q => nomatch q
    have e0 : Env0 P w K mg (hidT z.heap H) callerA [] z H := ⟨rfl, MB, fun b ob e => of_hidT e, Nat.le_of_eq (hidT_size _ _), trivial, fun b q => absurd q (nofr b), hok, .of_eq G0⟩
    refine codeAny_mono ((F _ KB (seenD G) TB).run callerA [] z H ⟨[.ref a], []⟩ [.ref a] [.ref a] _ _ rfl hr e0 (hb z (.ref a)) (.cons rfl .nil) (hsp H (fun p hp => tab _ (inT p hp)) hS)) fun r s' h => ?_
    match r, h with
    | .error e, h => exact False.elim h
    | .ok (.ret u), h =>
      obtain ⟨v, H', os, bare, un, hok', r', q⟩ := h
      have q' : v = .bl true := q
      subst q'
      obtain rfl : u = Value.bool true := r'
      have kept : ∀ b ob, b ∉ ts → z.heap.get? b = some ob → s'.heap.get? b = some ob := fun b ob nb e => by
        cases q : H b with
        | none => exact un.keep b ob e q (nofr b) (fun q => nomatch q)
        | some u =>
          rcases inv q with ⟨q1, _⟩ | ⟨_, _, rfl, _⟩
          · exact absurd q1 nb
          · have e1 := (hok b _ q).1
            have e2 := (hok' b _ (un.frzs b _ _ q)).1
            exact e2.trans (e1.symm.trans e)
      have more : ∀ b ∈ ts, ∃ m : Array Value, s'.heap.get? b = some (tabO m) := fun b q => by
        obtain ⟨m, e⟩ := un.tbls b #[] (tab b q)
        exact ⟨_, hok' b _ e⟩
      refine ⟨rfl, ⟨fun b ob e => ?_, fun b ob e => ?_⟩, os, bare⟩
      · by_cases hbt : b ∈ ts
        · obtain ⟨p, hp, rfl⟩ := ofT b hbt
          obtain ⟨m, e2⟩ := more _ hbt
          rw [hT p hp] at e
          cases e
          exact .inr (.inl ⟨((C p hp).tab (hT p hp)).isCodeTable, rfl, #[], m, rfl, by rw [Array.empty_append]; exact e2⟩)
        · exact .inl (kept b ob hbt e)
      · by_cases hbt : b ∈ ts
        · exact (more b hbt).elim fun m e2 => ⟨_, e2⟩
        · exact ⟨ob, kept b ob hbt e⟩
  cases hk : K.lookup a with
  | some ob =>
    have e := KX a ob hk
    rw [ha] at e
    cases e
    exact core none (.inl rfl) (fun q => absurd rfl q) (.inr ⟨_, vs.toArray, _, hk, rfl, rfl, rfl, by rw [List.size_toArray, lenV]; exact hl, by simpa using rv⟩)
  | none => exact core _ (.inr rfl) (fun _ => hk) (.inl (.inr ⟨_, startH_at aT⟩))
/-- what the head leaves, from such a promise -/
theorem walk_ofQT {l : PySem.W.OpenLaw} {n k : Nat} {q : Program} {loose : List Str} {XP : (Str → Option Value) → Heap → Prop} {YP : World → Heap → Prop} {d : DefRec} {K : Params → PySem.W.Frag} {x : Str}
    (hn : l.most = some n) (hn2 : n ≤ sizeLine) (hdf : d.params.defaults = []) (hr : Room k callerA) (hY : ∀ (w : World) (h : Heap), YP w h → (K w.params).In h)
    (F : ∀ (w : World) (mg : Str → Option Value) (fa : Addr) (h : Heap), YP w h → (K w.params).In h → h.Ns mainGlobals mg → mg d.name = some (.ref fa) →
      ∃ (fd : FuncData) (cs : List (Addr × Addr)) (sp : Sp), (∀ p ∈ cs, h.get? p.2 = some (tabO #[])) ∧ (∀ p ∈ cs, (K w.params).lookup p.2 = none) ∧ (∀ p ∈ cs, PySem.W.CodeHd h p.1 p.2) ∧ (∀ (s : Shared) (u : Value), BindsTo s fd ⟨[u], []⟩ [(x, u)]) ∧
        (∀ (H : Hp) (a : Addr) (ns : List Int), ns.length ≤ n → (∀ p ∈ cs, H p.2 = some (.tbl #[])) → SqL (K w.params) H a (ns.map V.int) → sp [.ref a] H (fun v _ => v = .bl true) fun _ _ _ => False) ∧
        ∀ base : Heap, (K w.params).In base → base.Ns mainGlobals mg → (∀ p ∈ cs, TabB base mg p.1 p.2) → FnQ l.prog w (K w.params) mg base CX0 k fa fd [x] sp) :
    PySem.W.WalkO q loose XP YP l.row.toRowW d [] (fun f vs => PySem.call f vs) := by
  refine Att.attach_call hn hdf fun w _ z mg _ fa _ _ _ _ a vs ns G Y _ _ _ hmg hobj hints hlen hg => ?_
  have KX := hY w _ Y
  obtain ⟨fd, cs, sp, hT, nT, C, hb, hsp, hF⟩ := F w mg fa _ Y KX G.T.g hmg
  exact law_callQT KX G.T.g G.T.b G.T.builtins G.T.nolimit hg hT nT C G.T.bmain hobj hints (Nat.le_trans hlen hn2) hr hF hb fun H hH hS => hsp H a ns hlen hH hS
end Gr

set_option Elab.async false
set_option maxRecDepth 100000
set_option maxHeartbeats 4000000
set_option linter.all false
namespace KP
open PySem PySem.Spec PyProof.Rows L2 Gr GxR
def top (i : Nat) : Stmt := PySem.Challenge.pw_gentlerounds_k04_whole_places_tell_how_t.main.body.getD i (.Pass ⟨0, 0, 0, 0⟩)
abbrev s_is_path : Stmt := top 6
abbrev s_check_path : Stmt := top 7
abbrev s_init : Stmt := inClass (top 9) 0
abbrev s__take : Stmt := inClass (top 9) 1
abbrev s__telling_signs : Stmt := inClass (top 9) 2
abbrev s__closed : Stmt := inClass (top 9) 3
abbrev s_step : Stmt := inClass (top 9) 4
abbrev s_begun : Stmt := inClass (top 9) 5
abbrev s_behind : Stmt := inClass (top 9) 6
abbrev s_places_of : Stmt := inClass (top 9) 7
abbrev s_standing_of : Stmt := inClass (top 9) 8
abbrev s_is_pattern : Stmt := top 12
abbrev s_check_pattern : Stmt := top 13
abbrev s_body_of : Stmt := top 14
abbrev s_places : Stmt := top 15
abbrev s_next_places : Stmt := top 16
abbrev s_meets : Stmt := top 17
abbrev s_l_well : Stmt := top 19
abbrev s_l_pick : Stmt := top 20
abbrev s_l_one : Stmt := top 21
abbrev s_l_signs : Stmt := top 22
abbrev s_l_alphabet : Stmt := top 23
abbrev s_l_body : Stmt := top 24
abbrev s_l_fits : Stmt := top 25
abbrev s_l_some_pattern : Stmt := top 26
abbrev s_l_some_path : Stmt := top 27
abbrev s_l_due_places : Stmt := top 28
abbrev s_l_walk_right : Stmt := top 29
abbrev s_l_right : Stmt := top 30
abbrev s_law : Stmt := top 31
/-- a def whose code object stands at c -/
structure FunC (K : PySem.W.Frag) (x ql : Str) (st : Stmt) (f : Addr) (fd : FuncData) (c : Addr) : Prop where
  ex : ∃ (oc : Value) (od : Option Addr) (kV doc pm : Value) (an : Option Addr) (ct : Value) (osl : Array (Option Value)),
    fd = PySem.W.fnOf x ql (defArgs st) (defBody st) (defScope st) .none kV doc pm an (.ref c) ct ∧ K.lookup f = some ⟨oc, od, .func fd, osl⟩ ∧ PySem.W.codeIn K (.ref c) ql = true
  kp : PySem.W.keepIn K (.ref f) = true
theorem FunC.fun {K : PySem.W.Frag} {x ql : Str} {st : Stmt} {f : Addr} {fd : FuncData} {c : Addr} (F : FunC K x ql st f fd c) : Fun K x ql st f fd := by
  obtain ⟨⟨oc, od, kV, doc, pm, an, ct, osl, e1, e2, e3⟩, kp⟩ := F
  exact ⟨⟨oc, od, kV, doc, pm, an, .ref c, ct, osl, e1, e2, e3⟩, kp⟩
/-- such a def by its body; its code object is known there -/
theorem FunC.ok {P : Program} {w : World} {K : PySem.W.Frag} {mg : Str → Option Value} {base : Heap} {x ql : Str} {st : Stmt} {f c : Addr} {fd : FuncData} {N ps : List Str} {k : Nat} {sp : Sp} (F : FunC K x ql st f fd c) (S : FnScope N ps (defScope st)) (len : ∀ vs H Q E, sp vs H Q E → vs.length = ps.length)
    (hb : ∀ (A : Around) (outer : List Env) (s : Shared) (H : Hp) (vs : List V) (Q : VK) (E : XK), Room k (A.deeper (envOfC ql (defScope st) s.heap.objs.size f (.ref c))) → sp vs H Q E →
      ∃ t, PSs (cxOf CX0 P w K mg base N ql (defScope st) f (.ref c) A outer s H E).nox (defBody st) t ∧ t { nx := fun _ H' => Q .non H', rt := Q } (start N vs) H) : FnOk P w K mg base CX0 (k + 1) f fd ps sp := by
  obtain ⟨oc, od, kV, doc, pm, an, ct, osl, rfl, lk, hcd⟩ := F.ex
  refine fn_of lk hcd S len fun A outer s H vs Q E hr hsp => ?_
  obtain ⟨t, h, q⟩ := hb A outer s H vs Q E hr hsp
  exact ⟨t, h.nox, q⟩
structure D (K : PySem.W.Frag) (mg : Str → Option Value) where
  f_is_path : Addr
  d_is_path : FuncData
  c_is_path : Addr
  P_is_path : Addr
  V_is_path : FunC K "is_path" "is_path" s_is_path f_is_path d_is_path c_is_path
  g_is_path : mg "is_path" = some (.ref f_is_path)
  f_check_path : Addr
  d_check_path : FuncData
  U_check_path : Fun K "check_path" "check_path" s_check_path f_check_path d_check_path
  g_check_path : mg "check_path" = some (.ref f_check_path)
  f_init : Addr
  d_init : FuncData
  U_init : Fun K "__init__" "Machine.__init__" s_init f_init d_init
  f__take : Addr
  d__take : FuncData
  U__take : Fun K "_take" "Machine._take" s__take f__take d__take
  f__telling_signs : Addr
  d__telling_signs : FuncData
  U__telling_signs : Fun K "_telling_signs" "Machine._telling_signs" s__telling_signs f__telling_signs d__telling_signs
  f__closed : Addr
  d__closed : FuncData
  U__closed : Fun K "_closed" "Machine._closed" s__closed f__closed d__closed
  f_step : Addr
  d_step : FuncData
  U_step : Fun K "step" "Machine.step" s_step f_step d_step
  f_begun : Addr
  d_begun : FuncData
  U_begun : Fun K "begun" "Machine.begun" s_begun f_begun d_begun
  f_behind : Addr
  d_behind : FuncData
  U_behind : Fun K "behind" "Machine.behind" s_behind f_behind d_behind
  f_places_of : Addr
  d_places_of : FuncData
  U_places_of : Fun K "places_of" "Machine.places_of" s_places_of f_places_of d_places_of
  f_standing_of : Addr
  d_standing_of : FuncData
  U_standing_of : Fun K "standing_of" "Machine.standing_of" s_standing_of f_standing_of d_standing_of
  f_is_pattern : Addr
  d_is_pattern : FuncData
  c_is_pattern : Addr
  P_is_pattern : Addr
  V_is_pattern : FunC K "is_pattern" "is_pattern" s_is_pattern f_is_pattern d_is_pattern c_is_pattern
  g_is_pattern : mg "is_pattern" = some (.ref f_is_pattern)
  f_check_pattern : Addr
  d_check_pattern : FuncData
  U_check_pattern : Fun K "check_pattern" "check_pattern" s_check_pattern f_check_pattern d_check_pattern
  g_check_pattern : mg "check_pattern" = some (.ref f_check_pattern)
  f_body_of : Addr
  d_body_of : FuncData
  U_body_of : Fun K "body_of" "body_of" s_body_of f_body_of d_body_of
  g_body_of : mg "body_of" = some (.ref f_body_of)
  f_places : Addr
  d_places : FuncData
  U_places : Fun K "places" "places" s_places f_places d_places
  g_places : mg "places" = some (.ref f_places)
  f_next_places : Addr
  d_next_places : FuncData
  U_next_places : Fun K "next_places" "next_places" s_next_places f_next_places d_next_places
  g_next_places : mg "next_places" = some (.ref f_next_places)
  f_meets : Addr
  d_meets : FuncData
  U_meets : Fun K "meets" "meets" s_meets f_meets d_meets
  g_meets : mg "meets" = some (.ref f_meets)
  f_l_well : Addr
  d_l_well : FuncData
  U_l_well : Fun K "_law_well" "_law_well" s_l_well f_l_well d_l_well
  g_l_well : mg "_law_well" = some (.ref f_l_well)
  f_l_pick : Addr
  d_l_pick : FuncData
  U_l_pick : Fun K "_law_pick" "_law_pick" s_l_pick f_l_pick d_l_pick
  g_l_pick : mg "_law_pick" = some (.ref f_l_pick)
  f_l_one : Addr
  d_l_one : FuncData
  U_l_one : Fun K "_law_one" "_law_one" s_l_one f_l_one d_l_one
  g_l_one : mg "_law_one" = some (.ref f_l_one)
  f_l_signs : Addr
  d_l_signs : FuncData
  U_l_signs : Fun K "_law_signs" "_law_signs" s_l_signs f_l_signs d_l_signs
  g_l_signs : mg "_law_signs" = some (.ref f_l_signs)
  f_l_alphabet : Addr
  d_l_alphabet : FuncData
  U_l_alphabet : Fun K "_law_alphabet" "_law_alphabet" s_l_alphabet f_l_alphabet d_l_alphabet
  g_l_alphabet : mg "_law_alphabet" = some (.ref f_l_alphabet)
  f_l_body : Addr
  d_l_body : FuncData
  U_l_body : Fun K "_law_body" "_law_body" s_l_body f_l_body d_l_body
  g_l_body : mg "_law_body" = some (.ref f_l_body)
  f_l_fits : Addr
  d_l_fits : FuncData
  U_l_fits : Fun K "_law_fits" "_law_fits" s_l_fits f_l_fits d_l_fits
  g_l_fits : mg "_law_fits" = some (.ref f_l_fits)
  f_l_some_pattern : Addr
  d_l_some_pattern : FuncData
  U_l_some_pattern : Fun K "_law_some_pattern" "_law_some_pattern" s_l_some_pattern f_l_some_pattern d_l_some_pattern
  g_l_some_pattern : mg "_law_some_pattern" = some (.ref f_l_some_pattern)
  f_l_some_path : Addr
  d_l_some_path : FuncData
  U_l_some_path : Fun K "_law_some_path" "_law_some_path" s_l_some_path f_l_some_path d_l_some_path
  g_l_some_path : mg "_law_some_path" = some (.ref f_l_some_path)
  f_l_due_places : Addr
  d_l_due_places : FuncData
  U_l_due_places : Fun K "_law_due_places" "_law_due_places" s_l_due_places f_l_due_places d_l_due_places
  g_l_due_places : mg "_law_due_places" = some (.ref f_l_due_places)
  f_l_walk_right : Addr
  d_l_walk_right : FuncData
  U_l_walk_right : Fun K "_law_walk_right" "_law_walk_right" s_l_walk_right f_l_walk_right d_l_walk_right
  g_l_walk_right : mg "_law_walk_right" = some (.ref f_l_walk_right)
  f_l_right : Addr
  d_l_right : FuncData
  U_l_right : Fun K "_law_right" "_law_right" s_l_right f_l_right d_l_right
  g_l_right : mg "_law_right" = some (.ref f_l_right)
  f_law : Addr
  d_law : FuncData
  U_law : Fun K "law" "law" s_law f_law d_law
  g_law : mg "law" = some (.ref f_law)
  C_Machine : Addr
  cl_Machine : Cls K C_Machine
  g_Machine : mg "Machine" = some (.ref C_Machine)
  mk_Machine : Mk K C_Machine f_init
  n_bodies : NoAttr K C_Machine "bodies"
  n_ends : NoAttr K C_Machine "ends"
  n_held : NoAttr K C_Machine "held"
  n_moves : NoAttr K C_Machine "moves"
  n_signs : NoAttr K C_Machine "signs"
  n_stars : NoAttr K C_Machine "stars"
  n_starts : NoAttr K C_Machine "starts"
  M__take : Meth K C_Machine "_take" f__take
  M__telling_signs : Meth K C_Machine "_telling_signs" f__telling_signs
  M__closed : Meth K C_Machine "_closed" f__closed
  M_step : Meth K C_Machine "step" f_step
  M_begun : Meth K C_Machine "begun" f_begun
  M_behind : Meth K C_Machine "behind" f_behind
  M_places_of : Meth K C_Machine "places_of" f_places_of
  M_standing_of : Meth K C_Machine "standing_of" f_standing_of
  t_SIGNS : Tok
  g_SIGNS : mg "SIGNS" = some (.str "-./0123456789_abcdefghijklmnopqrstuvwxyz" t_SIGNS)
  t_LONGEST_PATTERN : Tok
  g_LONGEST_PATTERN : mg "LONGEST_PATTERN" = some (.int 12 t_LONGEST_PATTERN)
  abs : mg "abs" = none
  all : mg "all" = none
  divmod : mg "divmod" = none
  enumerate : mg "enumerate" = none
  int : mg "int" = none
  isinstance : mg "isinstance" = none
  len : mg "len" = none
  list : mg "list" = none
  max : mg "max" = none
  min : mg "min" = none
  range : mg "range" = none
  repr : mg "repr" = none
  sorted : mg "sorted" = none
  str : mg "str" = none
  sum : mg "sum" = none
  tuple : mg "tuple" = none
  zip : mg "zip" = none
namespace D
variable {K : PySem.W.Frag} {mg : Str → Option Value} (T : D K mg)
theorem U_is_path : Fun K "is_path" "is_path" s_is_path T.f_is_path T.d_is_path := T.V_is_path.fun
theorem b_is_path : Binds K T.d_is_path ["value"] [] := T.U_is_path.binds fun _ _ _ _ _ _ us hl => match us, hl with | [_], _ => rfl
theorem b_check_path : Binds K T.d_check_path ["given"] [] := T.U_check_path.binds fun _ _ _ _ _ _ us hl => match us, hl with | [_], _ => rfl
theorem b_init : Binds K T.d_init ["self", "bodies"] [] := T.U_init.binds fun _ _ _ _ _ _ us hl => match us, hl with | [_, _], _ => rfl
theorem b__take : Binds K T.d__take ["self", "body", "first"] [] := T.U__take.binds fun _ _ _ _ _ _ us hl => match us, hl with | [_, _, _], _ => rfl
theorem b__telling_signs : Binds K T.d__telling_signs ["self"] [] := T.U__telling_signs.binds fun _ _ _ _ _ _ us hl => match us, hl with | [_], _ => rfl
theorem b__closed : Binds K T.d__closed ["self", "standing"] [] := T.U__closed.binds fun _ _ _ _ _ _ us hl => match us, hl with | [_, _], _ => rfl
theorem b_step : Binds K T.d_step ["self", "standing", "sign"] [] := T.U_step.binds fun _ _ _ _ _ _ us hl => match us, hl with | [_, _, _], _ => rfl
theorem b_begun : Binds K T.d_begun ["self"] [] := T.U_begun.binds fun _ _ _ _ _ _ us hl => match us, hl with | [_], _ => rfl
theorem b_behind : Binds K T.d_behind ["self", "path"] [] := T.U_behind.binds fun _ _ _ _ _ _ us hl => match us, hl with | [_, _], _ => rfl
theorem b_places_of : Binds K T.d_places_of ["self", "standing", "which"] [] := T.U_places_of.binds fun _ _ _ _ _ _ us hl => match us, hl with | [_, _, _], _ => rfl
theorem b_standing_of : Binds K T.d_standing_of ["self", "rows"] [] := T.U_standing_of.binds fun _ _ _ _ _ _ us hl => match us, hl with | [_, _], _ => rfl
theorem U_is_pattern : Fun K "is_pattern" "is_pattern" s_is_pattern T.f_is_pattern T.d_is_pattern := T.V_is_pattern.fun
theorem b_is_pattern : Binds K T.d_is_pattern ["value"] [] := T.U_is_pattern.binds fun _ _ _ _ _ _ us hl => match us, hl with | [_], _ => rfl
theorem b_check_pattern : Binds K T.d_check_pattern ["given"] [] := T.U_check_pattern.binds fun _ _ _ _ _ _ us hl => match us, hl with | [_], _ => rfl
theorem b_body_of : Binds K T.d_body_of ["pattern"] [] := T.U_body_of.binds fun _ _ _ _ _ _ us hl => match us, hl with | [_], _ => rfl
theorem b_places : Binds K T.d_places ["pattern", "path"] [] := T.U_places.binds fun _ _ _ _ _ _ us hl => match us, hl with | [_, _], _ => rfl
theorem b_next_places : Binds K T.d_next_places ["pattern", "places", "sign"] [] := T.U_next_places.binds fun _ _ _ _ _ _ us hl => match us, hl with | [_, _, _], _ => rfl
theorem b_meets : Binds K T.d_meets ["pattern", "path"] [] := T.U_meets.binds fun _ _ _ _ _ _ us hl => match us, hl with | [_, _], _ => rfl
theorem b_l_well : Binds K T.d_l_well ["_law_script", "_law_turn"] [] := T.U_l_well.binds fun _ _ _ _ _ _ us hl => match us, hl with | [_, _], _ => rfl
theorem b_l_pick : Binds K T.d_l_pick ["_law_well_here", "_law_top"] [] := T.U_l_pick.binds fun _ _ _ _ _ _ us hl => match us, hl with | [_, _], _ => rfl
theorem b_l_one : Binds K T.d_l_one ["_law_well_here", "_law_some"] [] := T.U_l_one.binds fun _ _ _ _ _ _ us hl => match us, hl with | [_, _], _ => rfl
theorem b_l_signs : Binds K T.d_l_signs [] [] := T.U_l_signs.binds fun _ _ _ _ _ _ us hl => match us, hl with | [], _ => rfl
theorem b_l_alphabet : Binds K T.d_l_alphabet ["_law_well_here"] [] := T.U_l_alphabet.binds fun _ _ _ _ _ _ us hl => match us, hl with | [_], _ => rfl
theorem b_l_body : Binds K T.d_l_body ["_law_shape"] [] := T.U_l_body.binds fun _ _ _ _ _ _ us hl => match us, hl with | [_], _ => rfl
theorem b_l_fits : Binds K T.d_l_fits ["_law_body_here", "_law_route"] [] := T.U_l_fits.binds fun _ _ _ _ _ _ us hl => match us, hl with | [_, _], _ => rfl
theorem b_l_some_pattern : Binds K T.d_l_some_pattern ["_law_well_here", "_law_signs_here", "_law_stars", "_law_top"] [] := T.U_l_some_pattern.binds fun _ _ _ _ _ _ us hl => match us, hl with | [_, _, _, _], _ => rfl
theorem b_l_some_path : Binds K T.d_l_some_path ["_law_well_here", "_law_signs_here", "_law_shape"] [] := T.U_l_some_path.binds fun _ _ _ _ _ _ us hl => match us, hl with | [_, _, _], _ => rfl
theorem b_l_due_places : Binds K T.d_l_due_places ["_law_body_here", "_law_route"] [] := T.U_l_due_places.binds fun _ _ _ _ _ _ us hl => match us, hl with | [_, _], _ => rfl
theorem b_l_walk_right : Binds K T.d_l_walk_right ["_law_shape", "_law_route"] [] := T.U_l_walk_right.binds fun _ _ _ _ _ _ us hl => match us, hl with | [_, _], _ => rfl
theorem b_l_right : Binds K T.d_l_right ["_law_well_here"] [] := T.U_l_right.binds fun _ _ _ _ _ _ us hl => match us, hl with | [_], _ => rfl
theorem b_law : Binds K T.d_law ["_law_script"] [] := T.U_law.binds fun _ _ _ _ _ _ us hl => match us, hl with | [_], _ => rfl
end D
end KP

set_option Elab.async false
set_option maxRecDepth 100000
set_option maxHeartbeats 4000000
set_option linter.all false
/-! Ours: the law's draws: the well, a pick, one of some things, one sign of a text. -/
namespace KP
open PySem PySem.Spec PyProof.Rows L2 Gr GxR
/-- a well stands at p -/
def Well (H : Hp) (p : Addr) : Prop := ∃ d m c : Int, H p = some (.lst [.int d, .int m, .int c])
/-- all is as it was but what stands at p -/
def But (H H' : Hp) (p : Addr) : Prop := ∀ b o, H b = some o → b ≠ p → H' b = some o
theorem But.trans {H H1 H2 : Hp} {p : Addr} (a : But H H1 p) (b : But H1 H2 p) : But H H2 p := fun c o h n => b c o (a c o h n) n
theorem But.refl (H : Hp) (p : Addr) : But H H p := fun _ _ h _ => h

def spPick : Sp := fun vs H Q _ => ∃ (p : Addr) (t : Int), vs = [.ref p, .int t] ∧ Well H p ∧ 0 < t ∧ t < 1073741824 ∧
  ∀ (r : Int) (H' : Hp), 0 ≤ r → r < t → Well H' p → But H H' p → Q (.int r) H'

section
variable {P : Program} {w : World} {K : PySem.W.Frag} {mg : Str → Option Value} {base : Heap}
theorem scP : FnScope ["_law_well_here", "_law_top", "_law_digit"] ["_law_well_here", "_law_top"] (defScope s_l_pick) := ⟨rfl, rfl, rfl, by decide +kernel, rfl, by decide +kernel, by decide +kernel⟩
theorem ok_l_pick (T : D K mg) : FnOk P w K mg base CX0 1 T.f_l_pick T.d_l_pick ["_law_well_here", "_law_top"] spPick := by
  refine T.U_l_pick.ok scP (fun vs H Q E h => ?_) (fun cdv A outer s H vs Q E hr h => ?_)
  · obtain ⟨p, t, rfl, _⟩ := h
    rfl
  · obtain ⟨p, t, rfl, ⟨d, m, c, hp⟩, ht, ht2, k⟩ := h
    refine ⟨_, pss_cons (ps_if (pt_cmpR op_gt (pe_ix ix_list (pv 0) pe_int (fun _ _ => rfl)) pe_int (nomark _))
        (pss_cons (ps_asg (pe_callB call_divmod (by rfl) T.divmod boot_divmod (pa_cons (pe_ix ix_list (pv 0) pe_int (fun _ _ => rfl)) (pa_cons (pv 1) pa_nil)))
          (pg_tup rfl (pgs_cons (pg_sub (pv 0) pe_int set_list) (pgs_cons (pg_name (i := 2) scP.nd rfl (.inl rfl)) pgs_nil))))
        (pss_one (ps_ret (pv 2)))) pss_nil)
      (pss_cons (ps_asg (pe_op op_add (pe_ix ix_list (pv 0) pe_int (fun _ _ => rfl)) pe_int) (pg_sub (pv 0) pe_int set_list))
      (pss_cons (ps_asg (pe_op op_mod (pe_callTy call_int1 (by rfl) T.int PyProof.Rows.boot_int (pa_cons (pe_op op_add (pe_op op_mul (pe_ix ix_list (pv 0) pe_int (fun _ _ => rfl)) pe_int)
          (pe_op op_mul pe_int (pe_ix ix_list (pv 0) pe_int (fun _ _ => rfl)))) pa_nil)) pe_int) (pg_sub (pv 0) pe_int set_list))
      (pss_one (ps_ret (pe_op op_mod (pe_callTy call_int1 (by rfl) T.int PyProof.Rows.boot_int (pa_cons (pe_op op_fdiv (pe_ix ix_list (pv 0) pe_int (fun _ _ => rfl)) pe_int) pa_nil)) (pv 1)))))), ?_⟩
    have a0 : ∀ x y z : V, atI [x, y, z] (0 : Int) = some x := fun _ _ _ => rfl
    have a1 : ∀ x y z : V, atI [x, y, z] (1 : Int) = some y := fun _ _ _ => rfl
    have a2 : ∀ x y z : V, atI [x, y, z] (2 : Int) = some z := fun _ _ _ => rfl
    refine ⟨_, rfl, p, _, 0, _, rfl, rfl, SqL.of hp, a0 _ _ _, d, 0, rfl, rfl, _, rfl, ?_⟩
    refine ite2 (fun hd => ?_) (fun hd => ?_)
    · refine ⟨_, rfl, p, _, 0, _, rfl, rfl, SqL.of hp, a0 _ _ _, _, rfl, d, t, rfl, ⟨ht, ht2⟩, fun q hq => ?_⟩
      have nq : p ≠ q := ne_of_none hp hq
      refine ⟨q, _, rfl, .inl (.inl upd_same), rfl, _, _, rfl, ?_⟩
      refine ⟨_, rfl, p, _, 0, 0, rfl, rfl, (by rw [upd_ne nq]; exact hp), rfl, ?_⟩
      refine ⟨_, _, rfl, rfl, ?_⟩
      refine ⟨_, rfl, k (d % t) _ (Int.emod_nonneg _ (by omega)) (Int.emod_lt_of_pos _ ht) ⟨d / t, m, c, upd_same⟩ fun b o e n => ?_⟩
      rw [upd_ne n, upd_ne (ne_of_none e hq)]
      exact e
    · refine ⟨_, rfl, p, _, 2, _, rfl, rfl, SqL.of hp, a2 _ _ _, c, 1, rfl, rfl, _, rfl, p, _, 2, 2, rfl, rfl, hp, rfl, ?_⟩
      refine ⟨_, rfl, p, _, 1, _, rfl, rfl, SqL.of upd_same, a1 _ _ _, m, 48271, rfl, rfl, .inr (by decide), _, rfl, p, _, 2, _, rfl, rfl, SqL.of upd_same, a2 _ _ _, 1013, c + 1, rfl, rfl, .inl (by decide), _, _, rfl, rfl, .inl ⟨_, rfl, _, _, rfl, rfl, (by show (0 : Int) < 2038074743; decide), ?_⟩⟩
      refine ⟨_, rfl, p, _, 1, 1, rfl, rfl, upd_same, rfl, ?_⟩
      refine ⟨_, rfl, p, _, 1, _, rfl, rfl, SqL.of upd_same, a1 _ _ _, _, 23, rfl, rfl, ⟨by decide, by decide⟩, .inl ⟨_, rfl, _, rfl, _, t, rfl, rfl, ht, ?_⟩⟩
      refine k _ _ (Int.emod_nonneg _ (by omega)) (Int.emod_lt_of_pos _ ht) ⟨_, _, _, upd_same⟩ fun b o e n => ?_
      rw [upd_ne n, upd_ne n]
      exact e
end
def spOne : Sp := fun vs H Q _ => ∃ (p q : Addr) (xs : List V), vs = [.ref p, .ref q] ∧ Well H p ∧ H q = some (.lst xs) ∧ q ≠ p ∧ 0 < xs.length ∧ xs.length ≤ 1000 ∧
  ∀ (i : Nat) (v : V) (H' : Hp), xs[i]? = some v → Well H' p → But H H' p → Q v H'
def spWell (K : PySem.W.Frag) : Sp := fun vs H Q _ => ∃ (a : Addr) (ns : List Int) (t : Int), vs = [.ref a, .int t] ∧ SqL K H a (ns.map V.int) ∧ 0 ≤ t ∧ ns.length ≤ 1000 ∧
  ∀ (q : Addr) (H' : Hp), H q = none → Well H' q → Same H H' → Q (.ref q) H'

section
variable {P : Program} {w : World} {K : PySem.W.Frag} {mg : Str → Option Value} {base : Heap}
theorem scO : FnScope ["_law_well_here", "_law_some"] ["_law_well_here", "_law_some"] (defScope s_l_one) := ⟨rfl, rfl, rfl, by decide +kernel, rfl, by decide +kernel, by decide +kernel⟩
theorem ok_l_one (T : D K mg) :
    FnOk P w K mg base CX0 2 T.f_l_one T.d_l_one ["_law_well_here", "_law_some"] spOne := by
  refine T.U_l_one.ok scO (fun vs H Q E h => ?_) (fun cdv A outer s H vs Q E hr h => ?_)
  · obtain ⟨p, q, xs, rfl, _⟩ := h
    rfl
  · obtain ⟨p, q, xs, rfl, hp, hq, nq, h0, h1, k⟩ := h
    refine ⟨_, pss_one (ps_ret (pe_ix ix_list (pv 1) (pe_call (ok_l_pick T) hr rfl T.g_l_pick T.U_l_pick.kp T.b_l_pick .nil pass0 (pa_cons (pv 0) (pa_cons (pe_callB call_len_seq (by rfl) T.len PySem.boot_len (pa_cons (pv 1) pa_nil)) pa_nil))) (fun _ _ => rfl))), ?_⟩
    refine ⟨_, rfl, _, rfl, _, rfl, q, xs, rfl, .inl (SqL.of hq), p, (xs.length : Int), rfl, hp, by omega, by omega, fun r H' r0 r1 hw hb => ?_⟩
    have hlt : r.toNat < xs.length := by omega
    have e : atI xs r = some (xs[r.toNat]) := by
      have := atI_nat (xs := xs) (j := r.toNat) (List.getElem?_eq_getElem hlt)
      rw [Int.toNat_of_nonneg r0] at this
      exact this
    exact ⟨q, xs, r, _, rfl, rfl, SqL.of (hb _ _ hq nq), e, k r.toNat _ H' (List.getElem?_eq_getElem hlt) hw hb⟩

theorem scW : FnScope ["_law_script", "_law_turn", "_law_mixed", "_law_each", "_law_cell", "_law_digits"] ["_law_script", "_law_turn"] (defScope s_l_well) := ⟨rfl, rfl, rfl, by decide +kernel, rfl, by decide +kernel, by decide +kernel⟩
theorem ok_l_well (T : D K mg) : FnOk P w K mg base CX0 1 T.f_l_well T.d_l_well ["_law_script", "_law_turn"] (spWell K) := by
  refine T.U_l_well.ok scW (fun vs H Q E h => ?_) (fun cdv A outer s H vs Q E hr h => ?_)
  · obtain ⟨a, ns, t, rfl, _⟩ := h
    rfl
  · obtain ⟨a, ns, t, rfl, hS, h0, hl, k⟩ := h
    refine ⟨_, pss_cons (ps_set (i := 2) scW.nd rfl (.inl rfl) (pe_op op_add pe_int (pe_op op_mul pe_int (pv 1))))
      (pss_cons (ps_for PassesOwn.never rfl (pi_list (pe_slice sl_list (pv 0) po_none (po_some pe_int))) (pg_name (i := 3) scW.nd rfl (.inl rfl))
        (pss_one (ps_set (i := 2) scW.nd rfl (.inl rfl) (pe_op op_mod (pe_callTy call_int1 (by rfl) T.int PyProof.Rows.boot_int (pa_cons
          (pe_op op_add (pe_op op_add (pe_op op_mul (pv 2) pe_int) (pe_op op_mul (pe_op op_mod (pe_callTy call_int1 (by rfl) T.int PyProof.Rows.boot_int (pa_cons (pv 3) pa_nil)) pe_int) pe_int)) pe_int) pa_nil)) pe_int))))
      (pss_cons (ps_set (i := 4) scW.nd rfl (.inl rfl) (pe_ifExp (pt_cmpR op_lt (pv 1) (pe_callB call_len_seq (by rfl) T.len PySem.boot_len (pa_cons (pv 0) pa_nil)) (nomark _))
        (pe_callTy call_int1 (by rfl) T.int PyProof.Rows.boot_int (pa_cons (pe_ix ix_list (pv 0) (pv 1) (fun _ _ => rfl)) pa_nil)) (pv 2)))
      (pss_cons (ps_set (i := 5) scW.nd rfl (.inl rfl) (pe_ifExp (pt_cmpR op_ge (pe_callB call_abs (by rfl) T.abs PyProof.Rows.boot_abs (pa_cons (pv 4) pa_nil)) (pe_op op_pow pe_int pe_int) (nomark _))
        (pe_callB call_abs (by rfl) T.abs PyProof.Rows.boot_abs (pa_cons (pv 4) pa_nil)) pe_int))
      (pss_cons (ps_set (i := 2) scW.nd rfl (.inl rfl) (pe_op op_mod (pe_callTy call_int1 (by rfl) T.int PyProof.Rows.boot_int (pa_cons
          (pe_op op_add (pe_op op_add (pe_op op_mul (pv 2) pe_int) (pe_op op_mul (pe_op op_mod (pe_callTy call_int1 (by rfl) T.int PyProof.Rows.boot_int (pa_cons (pv 4) pa_nil)) pe_int) pe_int)) pe_int) pa_nil)) pe_int))
      (pss_one (ps_ret (pe_lst (pa_cons (pv 5) (pa_cons (pv 2) (pa_cons pe_int pa_nil)))))))))), ?_⟩
    refine ⟨_, rfl, 5003, t, rfl, rfl, .inl (by decide), _, _, rfl, rfl, ?_⟩
    refine ⟨_, rfl, 9, rfl, a, _, rfl, hS, fun p0 hp0 => ?_⟩
    have s0 : Same H (upd H p0 (.lst (cutV (ns.map V.int) none (some 9)))) := fun b o e => by
      rw [upd_ne (ne_of_none e hp0)]
      exact e
    have cutInt : ∀ (i : Nat) (y : V), (cutV (ns.map V.int) none (some 9))[i]? = some y → ∃ z, y = V.int z := fun i y hy => by
      have hm := List.mem_of_mem_drop (List.mem_of_mem_take (List.mem_of_getElem? hy))
      obtain ⟨z, _, e⟩ := List.mem_map.mp hm
      exact ⟨z, e.symm⟩
    refine ⟨p0, rfl, ⟨_, SqL.of upd_same⟩, for_list (K := K) (a := p0) (xs := cutV (ns.map V.int) none (some 9))
      (fun i σ H2 => ∃ (m : Int) (v : Option V), σ = [some (.ref a), some (.int t), some (.int m), v, none, none] ∧ H2 = upd H p0 (.lst (cutV (ns.map V.int) none (some 9))))
      ⟨_, none, rfl, rfl⟩ (fun i σ H2 _ ⟨_, _, _, e⟩ => by rw [e]; exact SqL.of upd_same) ?_ ?_⟩
    · rintro i y σ H2 hi ⟨m, v, rfl, rfl⟩
      obtain ⟨z, rfl⟩ := cutInt i y hi
      have hP : (0 : Int) < 2038074743 := by decide
      exact ⟨_, rfl, m, 30011, rfl, rfl, .inr (by decide), _, rfl, .inl ⟨z, rfl, z, 2038074743, rfl, rfl, hP, _, 7001, rfl, rfl, .inr (by decide), _, _, rfl, rfl, _, 13, rfl, rfl,
        .inl ⟨_, rfl, _, 2038074743, rfl, rfl, hP, _, _, rfl, rfl⟩⟩⟩
    · rintro σ H2 ⟨m, v, rfl, rfl⟩
      have hP : (0 : Int) < 2038074743 := by decide
      refine ⟨_, rfl, _, rfl, a, _, rfl, .inl (s0.seq hS), t, _, rfl, rfl, _, rfl, ?_⟩
      refine ite2 (fun hlt => ?_) (fun _ => ?_)
      · have hlt' : t < ((ns.map V.int).length : Int) := of_decide_eq_true hlt
        rw [List.length_map] at hlt'
        have hj : t.toNat < (ns.map V.int).length := by
          rw [List.length_map]
          omega
        have e : atI (ns.map V.int) t = some (.int (ns[t.toNat]'(by omega))) := by
          have q := atI_nat (xs := ns.map V.int) (j := t.toNat) (List.getElem?_eq_getElem hj)
          rw [Int.toNat_of_nonneg h0, List.getElem_map] at q
          exact q
        refine ⟨_, rfl, _, rfl, a, _, t, _, rfl, rfl, s0.seq hS, e, .inl ⟨_, rfl, ?_⟩⟩
        refine ⟨_, rfl, _, rfl, 10, 18, rfl, rfl, ⟨by decide, by decide, by decide⟩, _, _, rfl, rfl, _, rfl, ?_⟩
        refine ite2 (fun _ => ?_) (fun _ => ?_)
        · refine ⟨_, rfl, _, rfl, ?_⟩
          exact ⟨_, rfl, _, 16807, rfl, rfl, .inr (by decide), _, rfl, .inl ⟨_, rfl, _, 2038074743, rfl, rfl, hP, _, 39373, rfl, rfl, .inr (by decide), _, _, rfl, rfl, _, 29, rfl, rfl,
            .inl ⟨_, rfl, _, 2038074743, rfl, rfl, hP, _, rfl, _, rfl, by show 3 ≤ sizeLine; decide, fun p1 hp1 => k p1 _ (s0.free hp1) ⟨_, _, _, upd_same⟩ (s0.trans fun b o e => by rw [upd_ne (ne_of_none e hp1)]; exact e)⟩⟩⟩
        · exact ⟨_, rfl, _, 16807, rfl, rfl, .inr (by decide), _, rfl, .inl ⟨_, rfl, _, 2038074743, rfl, rfl, hP, _, 39373, rfl, rfl, .inr (by decide), _, _, rfl, rfl, _, 29, rfl, rfl,
            .inl ⟨_, rfl, _, 2038074743, rfl, rfl, hP, _, rfl, _, rfl, by show 3 ≤ sizeLine; decide, fun p1 hp1 => k p1 _ (s0.free hp1) ⟨_, _, _, upd_same⟩ (s0.trans fun b o e => by rw [upd_ne (ne_of_none e hp1)]; exact e)⟩⟩⟩
      · refine ⟨_, rfl, ?_⟩
        refine ⟨_, rfl, _, rfl, 10, 18, rfl, rfl, ⟨by decide, by decide, by decide⟩, _, _, rfl, rfl, _, rfl, ?_⟩
        refine ite2 (fun _ => ?_) (fun _ => ?_)
        · refine ⟨_, rfl, _, rfl, ?_⟩
          exact ⟨_, rfl, _, 16807, rfl, rfl, .inr (by decide), _, rfl, .inl ⟨_, rfl, _, 2038074743, rfl, rfl, hP, _, 39373, rfl, rfl, .inr (by decide), _, _, rfl, rfl, _, 29, rfl, rfl,
            .inl ⟨_, rfl, _, 2038074743, rfl, rfl, hP, _, rfl, _, rfl, by show 3 ≤ sizeLine; decide, fun p1 hp1 => k p1 _ (s0.free hp1) ⟨_, _, _, upd_same⟩ (s0.trans fun b o e => by rw [upd_ne (ne_of_none e hp1)]; exact e)⟩⟩⟩
        · exact ⟨_, rfl, _, 16807, rfl, rfl, .inr (by decide), _, rfl, .inl ⟨_, rfl, _, 2038074743, rfl, rfl, hP, _, 39373, rfl, rfl, .inr (by decide), _, _, rfl, rfl, _, 29, rfl, rfl,
            .inl ⟨_, rfl, _, 2038074743, rfl, rfl, hP, _, rfl, _, rfl, by show 3 ≤ sizeLine; decide, fun p1 hp1 => k p1 _ (s0.free hp1) ⟨_, _, _, upd_same⟩ (s0.trans fun b o e => by rw [upd_ne (ne_of_none e hp1)]; exact e)⟩⟩⟩
end

/-- one sign of a text -/
def spOneS : Sp := fun vs H Q _ => ∃ (p : Addr) (z : Str), vs = [.ref p, .str z] ∧ Well H p ∧ 0 < z.length ∧ z.length ≤ 1000 ∧
  ∀ (c : Nat) (H' : Hp), c ∈ z.cps.toList → Well H' p → But H H' p → Q (.str ⟨#[c]⟩) H'
section
variable {P : Program} {w : World} {K : PySem.W.Frag} {mg : Str → Option Value} {base : Heap}
theorem ok_l_oneS (T : D K mg) : FnOk P w K mg base CX0 2 T.f_l_one T.d_l_one ["_law_well_here", "_law_some"] spOneS := by
  refine T.U_l_one.ok scO (fun vs H Q E h => ?_) (fun cdv A outer s H vs Q E hr h => ?_)
  · obtain ⟨p, z, rfl, _⟩ := h
    rfl
  · obtain ⟨p, z, rfl, hp, h0, h1, k⟩ := h
    refine ⟨_, pss_one (ps_ret (pe_ix ix_str (pv 1) (pe_call (ok_l_pick T) hr rfl T.g_l_pick T.U_l_pick.kp T.b_l_pick .nil pass0 (pa_cons (pv 0) (pa_cons (pe_callB call_len_str (by rfl) T.len PySem.boot_len (pa_cons (pv 1) pa_nil)) pa_nil))) (fun _ _ => rfl))), ?_⟩
    refine ⟨_, rfl, _, rfl, _, rfl, z, rfl, Nat.le_trans h1 (by decide), ?_⟩
    refine ⟨p, _, rfl, hp, by omega, by omega, fun r H' r0 r1 hw hb => ?_⟩
    have hlt : r.toNat < z.cps.toList.length := by
      have e : z.cps.toList.length = z.length := rfl
      omega
    have e : atI z.cps.toList r = some (z.cps.toList[r.toNat]) := by
      have := atI_nat (xs := z.cps.toList) (j := r.toNat) (List.getElem?_eq_getElem hlt)
      rw [Int.toNat_of_nonneg r0] at this
      exact this
    exact ⟨z, r, _, rfl, rfl, Nat.le_trans h1 (by decide), e, k _ H' (List.getElem_mem hlt) hw hb⟩
end
end KP

set_option Elab.async false
set_option maxRecDepth 100000
set_option maxHeartbeats 4000000
set_option linter.all false
/-! Ours: paths and patterns of texts. -/
namespace KP
open PySem PySem.Spec PyProof.Rows L2 Gr GxR
def SGs : Str := "-./0123456789_abcdefghijklmnopqrstuvwxyz"
def SG : List Nat := SGs.cps.toList
def isPath (z : Str) : Bool := z.cps.toList[0]? == some 47 && z.cps.toList.all (fun c => decide (c ∈ SG))
def innerOf (z : Str) : List Nat := if z.cps.toList.getLast? == some 36 then z.cps.toList.dropLast else z.cps.toList
def isPat (z : Str) : Bool := (decide (1 ≤ z.length) && decide (z.length ≤ 12)) && ((innerOf z)[0]? == some 47 && (innerOf z).all (fun c => c == 42 || decide (c ∈ SG)))
theorem gens_mk {env : Env} {scope : Scope} {x : Str} (h1 : scope.kind = .function) (h2 : scope.isCoroutine = false) (h3 : ∀ y ∈ scope.names, y.2 ≠ .cell) (h4 : scope.names.lookup (".0" : Str) = some NameKind.local) (h5 : scope.names.lookup x = some .local)
    (h6 : ∀ y ∈ scope.names, y.2 ≠ .free) : GenS env scope x := ⟨h1, h2, h3, h4, h5, fun y hy e => absurd e (h6 y hy)⟩
theorem Tabbed.refl {P : Addr} {H : Hp} (h : TabG H P) : Tabbed P H H := ⟨h, fun _ _ => rfl⟩
theorem Tabbed.trans {P : Addr} {H H1 H2 : Hp} (a : Tabbed P H H1) (b : Tabbed P H1 H2) : Tabbed P H H2 := ⟨b.1, fun x n => (b.2 x n).trans (a.2 x n)⟩
structure Tabs {K : PySem.W.Frag} {mg : Str → Option Value} (base : Heap) (T : D K mg) : Prop where
  a : TabB base mg T.c_is_path T.P_is_path
  b : TabB base mg T.c_is_pattern T.P_is_pattern
/-- both tables stand -/
def TT2 {K : PySem.W.Frag} {mg : Str → Option Value} (T : D K mg) (H : Hp) : Prop := TabG H T.P_is_path ∧ TabG H T.P_is_pattern
/-- but for the tables all is as it was -/
def Up {K : PySem.W.Frag} {mg : Str → Option Value} (T : D K mg) (H H' : Hp) : Prop := TT2 T H' ∧ ∀ b, b ≠ T.P_is_path → b ≠ T.P_is_pattern → ∀ o, H b = some o → H' b = some o
def spIsPath (Pt : Addr) : Sp := fun vs H Q _ => ∃ z, vs = [.str z] ∧ TabG H Pt ∧ ∀ H', Tabbed Pt H H' → Q (.bl (isPath z)) H'
def spIsPat (Pt : Addr) : Sp := fun vs H Q _ => ∃ z, vs = [.str z] ∧ z.length ≤ 1000 ∧ TabG H Pt ∧ ∀ H', Tabbed Pt H H' → Q (.bl (isPat z)) H'
def spChkPath (Pt : Addr) : Sp := fun vs H Q _ => ∃ z, vs = [.str z] ∧ isPath z = true ∧ TabG H Pt ∧ ∀ H', Tabbed Pt H H' → Q .non H'
def spChkPat (Pt : Addr) : Sp := fun vs H Q _ => ∃ z, vs = [.str z] ∧ isPat z = true ∧ TabG H Pt ∧ ∀ H', Tabbed Pt H H' → Q .non H'
theorem isPat_len {z : Str} (h : isPat z = true) : 1 ≤ z.length ∧ z.length ≤ 12 := by
  unfold isPat at h
  rw [Bool.and_eq_true, Bool.and_eq_true, decide_eq_true_eq, decide_eq_true_eq] at h
  exact h.1
section
variable {P : Program} {w : World} {K : PySem.W.Frag} {mg : Str → Option Value} {base : Heap}
theorem sc_is_path : FnScope ["value"] ["value"] (defScope s_is_path) := ⟨rfl, rfl, rfl, by decide +kernel, rfl, by decide +kernel, by decide +kernel⟩
theorem ok_is_path (T : D K mg) (TB : Tabs base T) : FnOk P w K mg base CX0 2 T.f_is_path T.d_is_path ["value"] (spIsPath T.P_is_path) := by
  refine T.V_is_path.ok sc_is_path (fun vs H Q E h => ?_) (fun A outer s H vs Q E hr h => ?_)
  · obtain ⟨z, rfl, _⟩ := h
    rfl
  · obtain ⟨z, rfl, hT, k⟩ := h
    refine ⟨_, pss_cons (ps_if (PW.pt (pw_or (pt_not (pt_val (pe_callB call_isi (by rfl) T.isinstance (by decide +kernel) (pa_cons (pv 0) (pa_cons (pe_bltn (v := .ty "str") (by rfl) T.str (by decide +kernel) rfl) pa_nil))))) (pw_or1 (pt_not (pt_val (pe_m1 PySem.F.slot_str_startswith PySem.F.type_str_startswith mt_startswith (pv 0) pe_str))))))
        (pss_one (ps_ret pe_bl))
        (pss_nil))
      (pss_one (ps_ret (pe_allG (pb := fun c => decide (c ∈ SG)) hr (by rfl) T.all TB.a rfl (gens_mk rfl rfl (by decide +kernel) (by rfl) (by rfl) (by decide +kernel)) (pv 0) (eg_in (y := SGs) rfl (by rfl) (by rfl) T.g_SIGNS) (fun _ => rfl)))), ?_⟩
    refine ⟨_, rfl, _, _, _, _, true, rfl, .ty _, .base (.str z), kit_ty (by decide +kernel), _, rfl, iteF ?_⟩
    refine ⟨_, rfl, ⟨z, rfl⟩, z, _, rfl, rfl, _, rfl, ?_⟩
    have e : Txt.startswith z "/" = (z.cps.toList[0]? == some 47) := by rw [lit_slash, tx_starts]
    rw [e]
    cases hq : z.cps.toList[0]? == some 47 with
    | false =>
      refine iteT ?_
      have : isPath z = false := by unfold isPath; rw [hq]; rfl
      rw [← this]
      exact k H (Tabbed.refl hT)
    | true =>
      refine iteF ⟨_, rfl, z, rfl, hT, fun H2 h2 => ?_⟩
      have : isPath z = z.cps.toList.all (fun c => decide (c ∈ SG)) := by unfold isPath; rw [hq]; rfl
      have q := k H2 h2
      rw [this] at q
      exact q
theorem sc_check_path : FnScope ["given"] ["given"] (defScope s_check_path) := ⟨rfl, rfl, rfl, by decide +kernel, rfl, by decide +kernel, by decide +kernel⟩
theorem ok_check_path (T : D K mg) (TB : Tabs base T) : FnOk P w K mg base CX0 3 T.f_check_path T.d_check_path ["given"] (spChkPath T.P_is_path) := by
  refine T.U_check_path.ok sc_check_path (fun vs H Q E h => ?_) (fun cdv A outer s H vs Q E hr h => ?_)
  · obtain ⟨z, rfl, _⟩ := h
    rfl
  · obtain ⟨z, rfl, hz, hT, k⟩ := h
    refine ⟨_, pss_one (ps_if (pt_not (pt_val (pe_call (ok_is_path T TB) hr rfl T.g_is_path T.U_is_path.kp T.b_is_path .nil pass0 (pa_cons (pv 0) pa_nil))))
        (pss_one ps_never)
        pss_nil), ?_⟩
    refine ⟨_, rfl, z, rfl, hT, fun H' h' => ⟨_, rfl, ?_⟩⟩
    rw [hz]
    exact iteF (k H' h')
theorem sc_is_pattern : FnScope ["value", "inner"] ["value"] (defScope s_is_pattern) := ⟨rfl, rfl, rfl, by decide +kernel, rfl, by decide +kernel, by decide +kernel⟩
theorem ok_is_pattern (T : D K mg) (TB : Tabs base T) : FnOk P w K mg base CX0 2 T.f_is_pattern T.d_is_pattern ["value"] (spIsPat T.P_is_pattern) := by
  refine T.V_is_pattern.ok sc_is_pattern (fun vs H Q E h => ?_) (fun A outer s H vs Q E hr h => ?_)
  · obtain ⟨z, rfl, _⟩ := h
    rfl
  · obtain ⟨z, rfl, hl, hT, k⟩ := h
    have nd := sc_is_pattern.nd
    have hz : z.length ≤ sizeLine := Nat.le_trans hl (by decide)
    refine ⟨_, pss_cons (ps_if (PW.pt (pw_or (pt_not (pt_val (pe_callB call_isi (by rfl) T.isinstance (by decide +kernel) (pa_cons (pv 0) (pa_cons (pe_bltn (v := .ty "str") (by rfl) T.str (by decide +kernel) rfl) pa_nil))))) (pw_or1 (pt_not (pt_chain op_le op_le pe_int (pe_callB call_len_str (by rfl) T.len PySem.boot_len (pa_cons (pv 0) pa_nil)) (pe_glob (v := .int 12) rfl T.g_LONGEST_PATTERN ⟨_, rfl⟩))))))
        (pss_one (ps_ret pe_bl))
        (pss_nil))
      (pss_cons (ps_set (i := 1) nd rfl (.inl rfl) (pe_bm PySem.F.plainAttrs_str PySem.F.slot_str_removesuffix PySem.F.type_str_removesuffix mt_removesuffix (pv 0) (pa_cons pe_str pa_nil)))
      (pss_one (ps_ret (pe_and (pe_m1 PySem.F.slot_str_startswith PySem.F.type_str_startswith mt_startswith (pv 1) pe_str) (pe_one
        (pe_allG (pb := fun c => ([c] == ("*" : Str).cps.toList) || decide (c ∈ SG)) hr (by rfl) T.all TB.b rfl (gens_mk rfl rfl (by decide +kernel) (by rfl) (by rfl) (by decide +kernel)) (pv 1) (eg_or (eg_eq rfl (by rfl)) (eg_in (y := SGs) rfl (by rfl) (by rfl) T.g_SIGNS)) (fun _ => rfl))))))), ?_⟩
    refine ⟨_, rfl, _, _, _, _, true, rfl, .ty _, .base (.str z), kit_ty (by decide +kernel), _, rfl, iteF ?_⟩
    refine ⟨_, rfl, _, rfl, hz, _, _, rfl, rfl, _, rfl, ?_⟩
    have bad : (decide (1 ≤ z.length) && decide (z.length ≤ 12)) = false → isPat z = false := fun e => by unfold isPat; rw [e]; rfl
    have out : isPat z = false → Q (.bl false) H := fun e => by
      have q := k H (Tabbed.refl hT)
      rw [e] at q
      exact q
    have d1 : decide ((1 : Int) ≤ (z.length : Nat)) = decide (1 ≤ z.length) := by
      apply decide_eq_decide.mpr
      omega
    have d2 : decide (((z.length : Nat) : Int) ≤ 12) = decide (z.length ≤ 12) := by
      apply decide_eq_decide.mpr
      omega
    rw [d1]
    cases h1 : decide (1 ≤ z.length) with
    | false => exact iteF ⟨_, rfl, iteT (out (bad (by rw [h1]; rfl)))⟩
    | true =>
      refine iteT ⟨_, _, rfl, rfl, _, rfl, ?_⟩
      rw [d2]
      cases h2 : decide (z.length ≤ 12) with
      | false => exact iteT (out (bad (by rw [h1, h2]; rfl)))
      | true =>
        refine iteF ⟨_, rfl, rfl, _, _, rfl, rfl, hz, ?_⟩
        have eI : (Txt.removesuffix z "$").cps.toList = innerOf z := by rw [lit_dollar, tx_suffix]; rfl
        have eS : Txt.startswith (Txt.removesuffix z "$") "/" = ((innerOf z)[0]? == some 47) := by rw [lit_slash, tx_starts, eI]
        have eP : isPat z = ((innerOf z)[0]? == some 47 && (innerOf z).all (fun c => c == 42 || decide (c ∈ SG))) := by unfold isPat; rw [h1, h2]; rfl
        refine ⟨_, rfl, ⟨_, rfl⟩, _, _, rfl, rfl, _, rfl, ?_⟩
        rw [eS]
        cases hq : (innerOf z)[0]? == some 47 with
        | false => exact iteF (out (by rw [eP, hq]; rfl))
        | true =>
          refine iteT ⟨_, rfl, _, rfl, hT, fun H2 t2 => ?_⟩
          have q := k H2 t2
          rw [eP, hq] at q
          have ea : ((Txt.removesuffix z "$").cps.toList.all fun c => ([c] == ("*" : Str).cps.toList) || decide (c ∈ SG)) = (innerOf z).all (fun c => c == 42 || decide (c ∈ SG)) := by
            rw [eI]
            congr 1
            funext c
            have : ([c] == ("*" : Str).cps.toList) = (c == 42) := by
              rw [lit_star]
              show ([c] == [42]) = (c == 42)
              cases hc : c == 42 <;> simp_all
            rw [this]
          show Q (.bl ((Txt.removesuffix z "$").cps.toList.all fun c => ([c] == ("*" : Str).cps.toList) || decide (c ∈ SG))) H2
          rw [ea]
          exact q
theorem sc_check_pattern : FnScope ["given"] ["given"] (defScope s_check_pattern) := ⟨rfl, rfl, rfl, by decide +kernel, rfl, by decide +kernel, by decide +kernel⟩
theorem ok_check_pattern (T : D K mg) (TB : Tabs base T) : FnOk P w K mg base CX0 3 T.f_check_pattern T.d_check_pattern ["given"] (spChkPat T.P_is_pattern) := by
  refine T.U_check_pattern.ok sc_check_pattern (fun vs H Q E h => ?_) (fun cdv A outer s H vs Q E hr h => ?_)
  · obtain ⟨z, rfl, _⟩ := h
    rfl
  · obtain ⟨z, rfl, hz, hT, k⟩ := h
    refine ⟨_, pss_one (ps_if (pt_not (pt_val (pe_call (ok_is_pattern T TB) hr rfl T.g_is_pattern T.U_is_pattern.kp T.b_is_pattern .nil pass0 (pa_cons (pv 0) pa_nil))))
        (pss_one ps_never)
        pss_nil), ?_⟩
    refine ⟨_, rfl, z, rfl, Nat.le_trans (isPat_len hz).2 (by decide), hT, fun H' h' => ⟨_, rfl, ?_⟩⟩
    rw [hz]
    exact iteF (k H' h')
/-- the body of a pattern -/
def bodyOf (z : Str) : Str := if z.cps.toList.getLast? == some 36 then cutS z none (some (-1)) else z ++ ("*" : Str)
def spBodyOf (Pt : Addr) : Sp := fun vs H Q _ => ∃ z, vs = [.str z] ∧ isPat z = true ∧ TabG H Pt ∧ ∀ H', Tabbed Pt H H' → Q (.str (bodyOf z)) H'
theorem sc_body_of : FnScope ["pattern"] ["pattern"] (defScope s_body_of) := ⟨rfl, rfl, rfl, by decide +kernel, rfl, by decide +kernel, by decide +kernel⟩
theorem ok_body_of (T : D K mg) (TB : Tabs base T) : FnOk P w K mg base CX0 4 T.f_body_of T.d_body_of ["pattern"] (spBodyOf T.P_is_pattern) := by
  refine T.U_body_of.ok sc_body_of (fun vs H Q E h => ?_) (fun cdv A outer s H vs Q E hr h => ?_)
  · obtain ⟨z, rfl, _⟩ := h
    rfl
  · obtain ⟨z, rfl, hz, hT, k⟩ := h
    refine ⟨_, pss_cons (ps_expr (pe_call (ok_check_pattern T TB) hr rfl T.g_check_pattern T.U_check_pattern.kp T.b_check_pattern .nil pass0 (pa_cons (pv 0) pa_nil)))
      (pss_cons (ps_if (pt_val (pe_m1 PySem.F.slot_str_endswith PySem.F.type_str_endswith mt_endswith (pv 0) pe_str))
        (pss_one (ps_ret (pe_slice sl_str (pv 0) po_none (po_some (pe_un un_neg pe_int)))))
        (pss_nil))
      (pss_one (ps_ret (pe_op op_add_str (pv 0) pe_str)))), ?_⟩
    refine ⟨_, rfl, z, rfl, hz, hT, fun H1 h1 => ?_⟩
    have lz := isPat_len hz
    have l12 : 13 ≤ sizeLine := by decide
    refine ⟨_, rfl, ⟨_, rfl⟩, _, _, rfl, rfl, _, rfl, ?_⟩
    have e : Txt.endswith z "$" = (z.cps.toList.getLast? == some 36) := by rw [lit_dollar, tx_ends]
    rw [e]
    have q := k H1 h1
    unfold bodyOf at q
    cases hq : z.cps.toList.getLast? == some 36 with
    | true =>
      rw [hq] at q
      refine iteT ⟨_, rfl, _, rfl, _, rfl, z, rfl, by omega, ?_⟩
      exact q
    | false =>
      rw [hq] at q
      refine iteF ⟨_, rfl, _, _, rfl, rfl, ?_, ?_⟩
      · show z.length + 1 ≤ sizeLine
        omega
      · exact q
end
end KP

set_option Elab.async false
set_option maxRecDepth 100000
set_option maxHeartbeats 4000000
set_option linter.all false
/-! Ours: the machine: how it is made. -/
namespace KP
open PySem PySem.Spec PyProof.Rows L2 Gr GxR PM
theorem nor (a b : Nat) : Builtin.bitOr (a : Int) (b : Int) = ((a ||| b : Nat) : Int) := by
  rw [bitOr_nn (Int.natCast_nonneg _) (Int.natCast_nonneg _)]
  rfl
theorem nand (a b : Nat) : Builtin.bitAnd (a : Int) (b : Int) = ((a &&& b : Nat) : Int) := PySem.W.os_band a b
theorem nshl1 (a : Nat) : ((a : Int) * 2 ^ (1 : Int).toNat) = ((a * 2 : Nat) : Int) := by
  show (a : Int) * 2 ^ 1 = _
  omega
/-- a list of signs, as it stands in a text -/
abbrev bl (b : Str) : List Nat := b.cps.toList
/-- what the moves' dict tells -/
structure Kv (b : List Nat) (n : Nat) (kvs : List (Key × V)) : Prop where
  get : ∀ c : Nat, (valV kvs (Sum.inr (⟨#[c]⟩ : Str))).getD (.int 0) = .int (moveOf b c n : Nat)
  str : ∀ p ∈ kvs, ∃ z : Str, p.1 = Sum.inr z
  len : kvs.length ≤ n
theorem Kv.nil (b : List Nat) : Kv b 0 [] := ⟨fun _ => rfl, fun p hp => (nomatch hp), Nat.zero_le _⟩
theorem putK_mem {kvs : List (Key × V)} {k : Key} {v : V} {p : Key × V} (h : p ∈ putK kvs k v) : p ∈ kvs ∨ p.1 = k := by
  unfold putK at h
  split at h
  · obtain ⟨q, hq, e⟩ := List.mem_map.mp h
    by_cases hk : q.1 = k
    · rw [if_pos hk] at e
      rw [← e]
      exact .inr hk
    · rw [if_neg hk] at e
      rw [← e]
      exact .inl hq
  · rcases List.mem_append.mp h with q | q
    · exact .inl q
    · rw [List.mem_singleton.mp q]
      exact .inr rfl
theorem moveOf_succ_star {b : List Nat} {n : Nat} (h : isSt b n = true) (c : Nat) : moveOf b c (n + 1) = moveOf b c n := by
  unfold moveOf
  show bits _ n ||| (if (!isSt b n && (b[n]? == some c)) = true then 2 ^ n else 0) = _
  rw [h]
  simp
theorem moveOf_succ {b : List Nat} {n d : Nat} (h : isSt b n = false) (hd : b[n]? = some d) (c : Nat) : moveOf b c (n + 1) = if c = d then moveOf b c n ||| 2 ^ n else moveOf b c n := by
  unfold moveOf
  show bits _ n ||| (if (!isSt b n && (b[n]? == some c)) = true then 2 ^ n else 0) = _
  rw [h, hd]
  by_cases hc : c = d
  · subst hc
    simp
  · have : ¬ d = c := fun e => hc e.symm
    simp [hc, this]
theorem Kv.star {b : List Nat} {n : Nat} {kvs : List (Key × V)} (h : isSt b n = true) (k : Kv b n kvs) : Kv b (n + 1) kvs :=
  ⟨fun c => by rw [k.get, moveOf_succ_star h], k.str, Nat.le_succ_of_le k.len⟩
theorem Kv.put {b : List Nat} {n d : Nat} {kvs : List (Key × V)} (h : isSt b n = false) (hd : b[n]? = some d) (k : Kv b n kvs) : Kv b (n + 1) (putK kvs (Sum.inr (⟨#[d]⟩ : Str)) (.int (moveOf b d n ||| 2 ^ n : Nat))) := by
  refine ⟨fun c => ?_, fun p hp => ?_, Nat.le_trans (DSub.putK_len _ _ _) (Nat.succ_le_succ k.len)⟩
  · rw [valV_put, moveOf_succ h hd]
    by_cases hc : c = d
    · subst hc
      rw [if_pos rfl, if_pos rfl]
      rfl
    · rw [if_neg hc, if_neg (fun e => hc (one_inj.mp (Sum.inr.inj e)))]
      exact k.get c
  · rcases putK_mem hp with q | q
    · exact k.str p q
    · exact ⟨_, q⟩
def FN : List Str := ["bodies", "starts", "ends", "stars", "held", "moves", "signs"]
def spTake {K : PySem.W.Frag} {mg : Str → Option Value} (T : D K mg) : Sp := fun vs H Q _ => ∃ (m dx md : Addr) (b : Str) (fs : List (Str × V)), vs = [.ref m, .str b, .int 0] ∧ H m = some (.ins T.C_Machine dx fs) ∧ fs.lookup ("stars" : Str) = some (.int 0) ∧ fs.lookup ("held" : Str) = some (.int 0) ∧
  fs.lookup ("moves" : Str) = some (.ref md) ∧ H md = some (.dK []) ∧ fs.length ≤ 800 ∧ b.length ≤ 60 ∧
  ∀ (fs' : List (Str × V)) (kvs : List (Key × V)) (H' : Hp), H' m = some (.ins T.C_Machine dx fs') → H' md = some (.dK kvs) → (∀ x o, H x = some o → x ≠ m → x ≠ md → H' x = some o) →
    fs'.lookup ("stars" : Str) = some (.int (starsOf (bl b) b.length : Nat)) → fs'.lookup ("held" : Str) = some (.int (heldOf (bl b) b.length : Nat)) → (∀ x, x ≠ ("stars" : Str) → x ≠ ("held" : Str) → fs'.lookup x = fs.lookup x) → fs'.length ≤ fs.length + 120 → Kv (bl b) b.length kvs → Q .non H'
theorem bits_succ (f : Nat → Bool) (n : Nat) : bits f (n + 1) = bits f n ||| (if f n then 2 ^ n else 0) := rfl
section
variable {P : Program} {w : World} {K : PySem.W.Frag} {mg : Str → Option Value} {base : Heap}
theorem sc_take : FnScope ["self", "body", "first", "place", "sign", "bit"] ["self", "body", "first"] (defScope s__take) := ⟨rfl, rfl, rfl, by decide +kernel, rfl, by decide +kernel, by decide +kernel⟩
theorem ok_take (T : D K mg) : FnOk P w K mg base CX0 1 T.f__take T.d__take ["self", "body", "first"] (spTake T) := by
  refine T.U__take.ok sc_take (fun vs H Q E h => ?_) (fun cdv A outer s H vs Q E hr h => ?_)
  · obtain ⟨m, dx, md, b, fs, rfl, _⟩ := h
    rfl
  · obtain ⟨m, dx, md, b, fs, rfl, hm, l1, l2, l3, hd, hl, hb, k⟩ := h
    have nd := sc_take.nd
    have hu := hu_of hr
    have nmd : m ≠ md := ne_of hm hd (by intro q; cases q)
    refine ⟨_, pss_one (ps_for PassesOwn.never rfl (pi_enumK (by rfl) T.enumerate (pa_cons (pv 1) pa_nil) (pk_cons (pv 2) pk_nil)) (pg_tup rfl (pgs_cons (pg_name (i := 3) nd rfl (.inl rfl)) (pgs_cons (pg_name (i := 4) nd rfl (.inl rfl)) pgs_nil)))
        (pss_cons (ps_set (i := 5) nd rfl (.inl rfl) (pe_op op_shl pe_int (pv 3)))
        (pss_one (ps_if (pt_cmpR op_eq (pv 4) pe_str (nomark _))
          (pss_cons (ps_fldaug (pv 0) (pv 5) in_or)
          (pss_one (ps_fldaug (pv 0) (pe_op op_shl (pv 5) pe_int) in_or)))
          (pss_one (ps_dput hu (pe_fld (pv 0) rfl) (pv 4) (pe_op op_or (pe_dget2 hu (pe_fld (pv 0) rfl) (pv 4) pe_int ⟨by rfl, by rfl, by rfl, by rfl⟩) (pv 5)) rfl)))))), ?_⟩
    refine ⟨_, rfl, _, rfl, b, 0, rfl, rfl, by decide, by decide, ?_⟩
    refine for_it (walk_tx (x := b) (c := 0)) (fun i σ H2 => ∃ (fs' : List (Str × V)) (kvs : List (Key × V)) (v3 v4 v5 : Option V), σ = [some (.ref m), some (.str b), some (.int 0), v3, v4, v5] ∧ i ≤ b.length ∧
        H2 m = some (.ins T.C_Machine dx fs') ∧ H2 md = some (.dK kvs) ∧ (∀ x o, H x = some o → x ≠ m → x ≠ md → H2 x = some o) ∧ fs'.lookup ("stars" : Str) = some (.int (starsOf (bl b) i : Nat)) ∧ fs'.lookup ("held" : Str) = some (.int (heldOf (bl b) i : Nat)) ∧
        (∀ x, x ≠ ("stars" : Str) → x ≠ ("held" : Str) → fs'.lookup x = fs.lookup x) ∧ fs'.length ≤ fs.length + 2 * i ∧ Kv (bl b) i kvs)
      ⟨fs, [], none, none, none, rfl, Nat.zero_le _, hm, hd, fun x o e _ _ => e, l1, l2, fun x _ _ => rfl, Nat.le_refl _, .nil _⟩ (fun _ _ _ _ _ => trivial) ?_ ?_
    · rintro i v σ H2 H3 hi ⟨fs', kvs, v3, v4, v5, rfl, hi2, hm2, hd2, ke, s1, s2, so, sl, kv⟩ ⟨p, d, rfl, hp, rfl, hdi⟩
      have npm : m ≠ p := ne_of_none hm2 hp
      have npd : md ≠ p := ne_of_none hd2 hp
      have hdl : (bl b)[i]? = some d := (Array.getElem?_toList (xs := b.cps) (i := i)).trans hdi
      have hm3 := (upd_ne (o := HO.tup [.int (0 + (i : Nat)), .str ⟨#[d]⟩]) npm).trans hm2
      have hd3 := (upd_ne (o := HO.tup [.int (0 + (i : Nat)), .str ⟨#[d]⟩]) npd).trans hd2
      have ke3 : ∀ x o, H x = some o → x ≠ m → x ≠ md → upd H2 p (.tup [.int (0 + (i : Nat)), .str ⟨#[d]⟩]) x = some o := fun x o e n1 n2 => by
        rw [upd_ne (ne_of_none (ke x o e n1 n2) hp)]
        exact ke x o e n1 n2
      refine ⟨p, _, rfl, .inl (.inl upd_same), rfl, _, _, rfl, _, _, rfl, rfl, ?_⟩
      refine ⟨_, rfl, _, _, rfl, rfl, ⟨by omega, by omega, by decide⟩, ?_⟩
      have e2 : (1 : Int) * 2 ^ (0 + ((i : Nat) : Int)).toNat = ((2 ^ i : Nat) : Int) := by
        have : (0 + ((i : Nat) : Int)).toNat = i := by omega
        rw [this, Int.one_mul]
        exact (Int.natCast_pow 2 i).symm
      dsimp only
      rw [e2]
      refine ⟨_, rfl, rfl, _, rfl, ?_⟩
      refine ite2 (fun hs => ?_) (fun hs => ?_)
      · have hs' : d = 42 := by
          have := of_decide_eq_true hs
          rw [lit_star] at this
          exact one_inj.mp (V.str.inj this)
        have hst : isSt (bl b) i = true := by
          unfold isSt
          rw [hdl, hs']
          rfl
        have hi60 : i < 60 := by
          have : b.cps.size = b.length := rfl
          omega
        refine ⟨_, rfl, m, _, dx, _, _, rfl, hm3, T.cl_Machine, T.n_stars, s1, _, rfl, _, _, rfl, rfl, _, _, hm3, (by omega), ?_⟩
        have hm4 : upd (upd H2 p (.tup [.int (0 + (i : Nat)), .str ⟨#[d]⟩])) m (.ins T.C_Machine dx (putF ("stars" : Str) (.int (Builtin.bitOr ((starsOf (bl b) i : Nat) : Int) ((2 ^ i : Nat) : Int))) fs')) m = some (.ins T.C_Machine dx (putF ("stars" : Str) (.int (Builtin.bitOr ((starsOf (bl b) i : Nat) : Int) ((2 ^ i : Nat) : Int))) fs')) := upd_same
        refine ⟨_, rfl, m, _, dx, _, _, rfl, hm4, T.cl_Machine, T.n_held, (by rw [lookup_putF, if_neg (by decide +kernel)]; exact s2), _, rfl, _, _, rfl, rfl, ⟨by decide, by decide, ?_⟩, _, _, rfl, rfl, _, _, hm4, ?_, ?_⟩
        · have : (2 : Nat) ^ i < 2 ^ 64 := Nat.pow_lt_pow_right (by decide) (by omega)
          simpa using this
        · have := length_putF ("stars" : Str) (.int (Builtin.bitOr ((starsOf (bl b) i : Nat) : Int) ((2 ^ i : Nat) : Int))) fs'
          omega
        · rw [nshl1, nor, nor]
          refine ⟨_, kvs, _, _, _, rfl, hi, upd_same, ?_, ?_, ?_, ?_, ?_, ?_, kv.star hst⟩
          · rw [upd_ne (Ne.symm nmd), upd_ne (Ne.symm nmd)]
            exact hd3
          · intro x o e n1 n2
            rw [upd_ne n1, upd_ne n1]
            exact ke3 x o e n1 n2
          · rw [lookup_putF, if_neg (by decide +kernel), lookup_putF, if_pos rfl]
            unfold starsOf
            rw [bits_succ, hst]
            rfl
          · rw [lookup_putF, if_pos rfl]
            unfold heldOf
            rw [bits_succ, hst, if_pos rfl, mul2_or]
          · intro x n1 n2
            rw [lookup_putF, if_neg n2, lookup_putF, if_neg n1]
            exact so x n1 n2
          · have h1 := length_putF ("stars" : Str) (.int ((starsOf (bl b) i ||| 2 ^ i : Nat) : Int)) fs'
            have h2 := length_putF ("held" : Str) (.int ((heldOf (bl b) i ||| 2 ^ i * 2 : Nat) : Int)) (putF ("stars" : Str) (.int ((starsOf (bl b) i ||| 2 ^ i : Nat) : Int)) fs')
            omega
      · have hs' : d ≠ 42 := fun e => hs (decide_eq_true (by rw [e, lit_star]))
        have hst : isSt (bl b) i = false := by
          unfold isSt
          rw [hdl]
          simpa using hs'
        have l3' : fs'.lookup ("moves" : Str) = some (.ref md) := by
          rw [so _ (by decide +kernel) (by decide +kernel)]
          exact l3
        refine ⟨_, rfl, m, _, dx, _, _, rfl, hm3, T.cl_Machine, T.n_moves, l3', md, rfl, .inl ⟨kvs, .inl hd3⟩, _, rfl, _, DGet.k (k := Sum.inr (⟨#[d]⟩ : Str)) hd3, _, rfl, _, _, kv.get d, rfl, _, rfl, m, _, dx, _, _, rfl, hm3, T.cl_Machine, T.n_moves, l3', _, rfl, md, _, rfl,
          DPut.k (k := Sum.inr (⟨#[d]⟩ : Str)) hd3 ?_, ?_⟩
        · have := kv.len
          have : b.cps.size = b.length := rfl
          exact small1000 (by omega)
        · dsimp only
          rw [nor]
          refine ⟨fs', _, _, _, _, rfl, hi, ?_, upd_same, ?_, ?_, ?_, so, by omega, kv.put hst hdl⟩
          · rw [upd_ne nmd]
            exact hm3
          · intro x o e n1 n2
            rw [upd_ne n2]
            exact ke3 x o e n1 n2
          · rw [s1]
            unfold starsOf
            rw [bits_succ, hst]
            simp
          · rw [s2]
            unfold heldOf
            rw [bits_succ, hst]
            simp
    · rintro σ H2 ⟨fs', kvs, v3, v4, v5, rfl, hi2, hm2, hd2, ke, s1, s2, so, sl, kv⟩
      exact k fs' kvs H2 hm2 hd2 ke s1 s2 so (by have : b.cps.size = b.length := rfl; omega) kv
end
end KP

set_option Elab.async false
set_option maxRecDepth 100000
set_option maxHeartbeats 4000000
set_option linter.all false
/-! Ours: the machine: the signs that it tells, how it is made whole. -/
namespace KP
open PySem PySem.Spec PyProof.Rows L2 Gr GxR PM
def spTell {K : PySem.W.Frag} {mg : Str → Option Value} (T : D K mg) : Sp := fun vs H Q _ => ∃ (m dx md : Addr) (fs : List (Str × V)) (kvs : List (Key × V)), vs = [.ref m] ∧ H m = some (.ins T.C_Machine dx fs) ∧ fs.lookup ("moves" : Str) = some (.ref md) ∧ H md = some (.dK kvs) ∧
  (∀ p ∈ kvs, ∃ z : Str, p.1 = Sum.inr z) ∧ kvs.length ≤ 60 ∧ ∀ (p : Addr) (H' : Hp), Same H H' → Q (.ref p) H'
theorem keys_strs : ∀ {kvs : List (Key × V)}, (∀ p ∈ kvs, ∃ z : Str, p.1 = Sum.inr z) → ∃ ss : List Str, kvs.map (fun p => kV p.1) = ss.map V.str ∧ ss.length = kvs.length
  | [], _ => ⟨[], rfl, rfl⟩
  | p :: r, h => by
    obtain ⟨ss, e, l⟩ := keys_strs (kvs := r) fun q hq => h q (List.mem_cons_of_mem _ hq)
    obtain ⟨z, ez⟩ := h p List.mem_cons_self
    refine ⟨z :: ss, ?_, by rw [List.length_cons, List.length_cons, l]⟩
    rw [List.map_cons, List.map_cons, e, ez]
    rfl
theorem cut_strs (ss : List Str) (n : Nat) : ∃ tt : List Str, cutV (ss.map V.str) none (some (n : Int)) = tt.map V.str ∧ tt.length ≤ n := by
  refine ⟨ss.take n, ?_, by rw [List.length_take]; exact Nat.min_le_left _ _⟩
  unfold cutV
  show ((ss.map V.str).drop 0).take (HT.sIx (ss.map V.str).length (ss.map V.str).length (some (n : Int)) - 0) = _
  rw [List.drop_zero, Nat.sub_zero, HT.sIx_nat, List.map_take]
  by_cases h : n ≤ (ss.map V.str).length
  · rw [Nat.min_eq_left h]
  · rw [Nat.min_eq_right (by omega), List.take_of_length_le (Nat.le_refl _), List.take_of_length_le (by omega)]
section
variable {P : Program} {w : World} {K : PySem.W.Frag} {mg : Str → Option Value} {base : Heap}
theorem sc_tell : FnScope ["self", "others", "sign"] ["self"] (defScope s__telling_signs) := ⟨rfl, rfl, rfl, by decide +kernel, rfl, by decide +kernel, by decide +kernel⟩
theorem ok_tell (T : D K mg) : FnOk P w K mg base CX0 1 T.f__telling_signs T.d__telling_signs ["self"] (spTell T) := by
  refine T.U__telling_signs.ok sc_tell (fun vs H Q E h => ?_) (fun cdv A outer s H vs Q E hr h => ?_)
  · obtain ⟨m, dx, md, fs, kvs, rfl, _⟩ := h
    rfl
  · obtain ⟨m, dx, md, fs, kvs, rfl, hm, lm, hd, hk, hl, k⟩ := h
    have nd := sc_tell.nd
    have hu := hu_of hr
    refine ⟨_, pss_cons (ps_setLc (i := 1) (own := [("sign", 2)]) (g := gName 2) rfl nd rfl rfl (sw_true rfl rfl rfl (by decide +kernel)) (pi_str (pe_glob (v := .str SGs) rfl T.g_SIGNS ⟨_, rfl⟩)) (blkOk_by (N := ["self", "others", "sign"]) (sc := defScope s__telling_signs) (by decide +kernel)) (fun _ _ _ _ _ => pg_name (i := 2) nd rfl (.inl rfl)) (fun _ _ _ _ _ => (pts_one (pt_cmp (pc_dnotin (by exact hu) (pv 2) (pe_fldB (pv 0) rfl))))) (fun _ _ _ _ _ => pv 2))
      (pss_one (ps_ret (pe_callB cr_sortedS (by rfl) T.sorted (by decide +kernel) (pa_cons (pe_op op_cat (pe_callTy (call_listD rfl) (by rfl) T.list (by decide +kernel) (pa_cons (pe_fld (pv 0) rfl) pa_nil)) (pe_slice sl_list (pv 1) po_none (po_some pe_int))) pa_nil)))), ?_⟩
    refine ⟨SGs, rfl, fun D hD => lc_it (walk_str (z := SGs)) (fun i H2 => Same H H2 ∧ ∃ ss : List Str, H2 D = some (.lst (ss.map V.str)) ∧ ss.length ≤ i) ⟨same_upd hD, [], upd_same, Nat.le_refl _⟩ (fun _ _ _ _ => trivial) ?_ ?_⟩
    · rintro i x H2 H3 hi ⟨s2, ss, hDs, hls⟩ ⟨rfl, c, hc, rfl⟩
      have hD2 : H D = none := hD
      refine ⟨rfl, ?_⟩
      refine ⟨_, rfl, _, rfl, m, _, dx, _, _, rfl, s2 _ _ hm, T.cl_Machine, T.n_moves, lm, md, _, rfl, DGet.k (k := Sum.inr (⟨#[c]⟩ : Str)) (s2 _ _ hd), _, rfl, ?_⟩
      have hi40 : i < 1000 := Nat.lt_of_lt_of_le hi (by decide +kernel)
      refine ite2 (fun _ => ?_) (fun _ => ?_)
      · refine ⟨_, rfl, _, hDs, ?_, same_into hD s2, ss ++ [⟨#[c]⟩], ?_, ?_⟩
        · rw [List.length_map]
          exact small1000 (by omega)
        · rw [upd_same, List.map_append]
          rfl
        · rw [List.length_append, List.length_singleton]
          omega
      · exact ⟨s2, ss, hDs, Nat.le_succ_of_le hls⟩
    · rintro H2 ⟨s2, ss, hDs, hls⟩
      obtain ⟨ks, ek, lk⟩ := keys_strs hk
      obtain ⟨tt, et, ltt⟩ := cut_strs ss 1
      refine ⟨_, rfl, m, _, dx, _, _, rfl, s2 _ _ hm, T.cl_Machine, T.n_moves, lm, md, kvs, rfl, .inl (s2 _ _ hd), fun p hp => ?_⟩
      have s3 : Same H2 (upd H2 p (.lst (kvs.map fun q => kV q.1))) := same_upd hp
      refine ⟨_, rfl, _, rfl, D, _, rfl, SqL.of (s3 _ _ hDs), fun q hq => ?_⟩
      have npq : p ≠ q := fun e => by
        rw [← e, upd_same] at hq
        cases hq
      have s4 := same_upd (o := HO.lst (cutV (ss.map V.str) none (some 1))) hq
      refine ⟨p, q, _, _, rfl, rfl, s4 _ _ upd_same, upd_same, ?_, fun r hr2 => ?_⟩
      · have l1 : (kvs.map fun q => kV q.1).length ≤ 60 := by rw [List.length_map]; exact hl
        have l2 : (cutV (ss.map V.str) none (some 1)).length ≤ 1 := by
          show (cutV (ss.map V.str) none (some ((1 : Nat) : Int))).length ≤ 1
          rw [et, List.length_map]
          exact ltt
        exact Nat.le_of_lt (small1000 (by omega))
      · have s5 := same_upd (o := HO.lst ((kvs.map fun q => kV q.1) ++ cutV (ss.map V.str) none (some 1))) hr2
        refine ⟨r, ks ++ tt, rfl, SqL.of ?_, ?_, fun ys o _ _ ho => ?_⟩
        · rw [upd_same, List.map_append, ← ek, ← et]
          rfl
        · rw [List.length_append]
          omega
        · exact k o _ (s2.trans (s3.trans (s4.trans (s5.trans (same_upd ho)))))
end
end KP

set_option Elab.async false
set_option maxRecDepth 100000
set_option maxHeartbeats 4000000
set_option linter.all false
/-! Ours: a machine for one body, made. -/
namespace KP
open PySem PySem.Spec PyProof.Rows L2 Gr GxR PM
/-- what is not a table stays -/
def Stay (H H' : Hp) : Prop := ∀ a o, H a = some o → (∀ ps, o ≠ .tbl ps) → H' a = some o
theorem Stay.refl (H : Hp) : Stay H H := fun _ _ e _ => e
theorem Stay.trans {H H1 H2 : Hp} (a : Stay H H1) (b : Stay H1 H2) : Stay H H2 := fun x o e n => b x o (a x o e n) n
theorem Stay.same {H H' : Hp} (s : Same H H') : Stay H H' := fun a o e _ => s a o e
/-- a machine for the body b stands at m -/
def Mach {K : PySem.W.Frag} {mg : Str → Option Value} (T : D K mg) (H : Hp) (m : Addr) (b : Str) : Prop := ∃ (dx lb ls md : Addr) (fs : List (Str × V)) (kvs : List (Key × V)), H m = some (.ins T.C_Machine dx fs) ∧
  (fs.lookup ("bodies" : Str) = some (.ref lb) ∧ H lb = some (.lst [.str b])) ∧ (fs.lookup ("starts" : Str) = some (.ref ls) ∧ H ls = some (.lst [.int 0])) ∧
  fs.lookup ("stars" : Str) = some (.int (starsOf (bl b) b.length : Nat)) ∧ fs.lookup ("held" : Str) = some (.int (heldOf (bl b) b.length : Nat)) ∧ (fs.lookup ("moves" : Str) = some (.ref md) ∧ H md = some (.dK kvs) ∧ Kv (bl b) b.length kvs) ∧
  ∀ x, x ∉ FN → fs.lookup x = none
theorem Mach.stay {K : PySem.W.Frag} {mg : Str → Option Value} {T : D K mg} {H H' : Hp} {m : Addr} {b : Str} (s : Stay H H') (h : Mach T H m b) : Mach T H' m b := by
  obtain ⟨dx, lb, ls, md, fs, kvs, h1, ⟨l2, h2⟩, ⟨l3, h3⟩, h4, h5, ⟨l6, h6, kv⟩, h7⟩ := h
  exact ⟨dx, lb, ls, md, fs, kvs, s _ _ h1 (fun _ e => nomatch e), ⟨l2, s _ _ h2 (fun _ e => nomatch e)⟩, ⟨l3, s _ _ h3 (fun _ e => nomatch e)⟩, h4, h5, ⟨l6, s _ _ h6 (fun _ e => nomatch e), kv⟩, h7⟩
def spInit {K : PySem.W.Frag} {mg : Str → Option Value} (T : D K mg) : Sp := fun vs H Q _ => ∃ (m lb dx : Addr) (b : Str), vs = [.ref m, .ref lb] ∧ H m = some (.ins T.C_Machine dx []) ∧ H lb = some (.lst [.str b]) ∧ b.length ≤ 60 ∧
  ∀ H', Mach T H' m b → (∀ x o, H x = some o → x ≠ m → H' x = some o) → Q .non H'
theorem lkN {f g : Str} {v w : V} {fs : List (Str × V)} (n : g ≠ f) (h : fs.lookup g = some w) : (putF f v fs).lookup g = some w := by
  rw [lookup_putF, if_neg n]
  exact h
theorem lkS {f : Str} {v : V} {fs : List (Str × V)} : (putF f v fs).lookup f = some v := by
  rw [lookup_putF, if_pos rfl]
theorem lkO {f g : Str} {v : V} {fs : List (Str × V)} (n : g ≠ f) : (putF f v fs).lookup g = fs.lookup g := by
  rw [lookup_putF, if_neg n]
theorem notFN {x : Str} (h : x ∉ FN) : x ≠ ("bodies" : Str) ∧ x ≠ ("starts" : Str) ∧ x ≠ ("ends" : Str) ∧ x ≠ ("stars" : Str) ∧ x ≠ ("held" : Str) ∧ x ≠ ("moves" : Str) ∧ x ≠ ("signs" : Str) := by
  unfold FN at h
  simp only [List.mem_cons, List.not_mem_nil, or_false, not_or] at h
  exact h
section
variable {P : Program} {w : World} {K : PySem.W.Frag} {mg : Str → Option Value} {base : Heap}
theorem sc_init : FnScope ["self", "bodies", "first", "body"] ["self", "bodies"] (defScope s_init) := ⟨rfl, rfl, rfl, by decide +kernel, rfl, by decide +kernel, by decide +kernel⟩
theorem ok_init (T : D K mg) : FnOk P w K mg base CX0 2 T.f_init T.d_init ["self", "bodies"] (spInit T) := by
  refine T.U_init.ok sc_init (fun vs H Q E h => ?_) (fun cdv A outer s H vs Q E hr h => ?_)
  · obtain ⟨m, lb, dx, b, rfl, _⟩ := h
    rfl
  · obtain ⟨m, lb, dx, b, rfl, hm, hlb, hb, k⟩ := h
    have nd := sc_init.nd
    have nlb : lb ≠ m := ne_of hlb hm (by intro q; cases q)
    refine ⟨_, pss_cons (ps_fld (pv 0) (pv 1) rfl)
      (pss_cons (ps_fld (pv 0) (pe_lst pa_nil) rfl)
      (pss_cons (ps_fld (pv 0) (pe_lst pa_nil) rfl)
      (pss_cons (ps_fld (pv 0) pe_int rfl)
      (pss_cons (ps_fld (pv 0) pe_int rfl)
      (pss_cons (ps_fld (pv 0) pe_dnewK rfl)
      (pss_cons (ps_set (i := 2) nd rfl (.inl rfl) pe_int)
      (pss_cons (ps_for PassesOwn.never rfl (pi_list (pv 1)) (pg_name (i := 3) nd rfl (.inl rfl))
        (pss_cons (ps_expr (pe_bm PySem.F.plainAttrs_list PySem.F.slot_list_append PySem.F.type_list_append mt_append (pe_fld (pv 0) rfl) (pa_cons (pv 2) pa_nil)))
        (pss_cons (ps_expr (pe_bm PySem.F.plainAttrs_list PySem.F.slot_list_append PySem.F.type_list_append mt_append (pe_fld (pv 0) rfl) (pa_cons (pe_op op_shl pe_int (pe_op op_add (pv 2) (pe_callB call_len_str (by rfl) T.len PySem.boot_len (pa_cons (pv 3) pa_nil)))) pa_nil)))
        (pss_cons (ps_expr (pe_meth (pv 0) T.cl_Machine T.M__take (ok_take T) hr T.b__take .nil pass0 (pa_cons (pv 3) (pa_cons (pv 2) pa_nil))))
        (pss_one (ps_aug (i := 2) nd rfl (.inl rfl) (pe_op op_add (pe_callB call_len_str (by rfl) T.len PySem.boot_len (pa_cons (pv 3) pa_nil)) pe_int) ip_add))))))
      (pss_one (ps_fld (pv 0) (pe_meth0 (pv 0) T.cl_Machine T.M__telling_signs (ok_tell T) hr T.b__telling_signs .nil pass0) rfl))))))))), ?_⟩
    -- bodies
    refine ⟨_, rfl, _, rfl, m, _, dx, [], rfl, hm, T.cl_Machine, T.n_bodies, (by decide), ?_⟩
    generalize eH1 : upd H m (.ins T.C_Machine dx (putF ("bodies" : Str) (.ref lb) [])) = H1
    have hm1 : H1 m = some (.ins T.C_Machine dx (putF ("bodies" : Str) (.ref lb) [])) := by rw [← eH1]; exact upd_same
    have k1 : ∀ x o, H x = some o → x ≠ m → H1 x = some o := fun x o e n => by rw [← eH1, upd_ne n]; exact e
    generalize eF1 : putF ("bodies" : Str) (.ref lb) [] = fs1 at hm1
    have lF1 : fs1.length ≤ 1 := by rw [← eF1]; exact length_putF _ _ _
    have b1 : fs1.lookup ("bodies" : Str) = some (.ref lb) := by rw [← eF1]; exact lkS
    have o1 : ∀ x, x ∉ FN → fs1.lookup x = none := fun x hx => by rw [← eF1, lkO (notFN hx).1]; rfl
    -- starts
    refine ⟨Nat.zero_le _, fun ls hls => ⟨_, rfl, m, _, dx, fs1, rfl, (upd_ne (ne_of_none hm1 hls)).trans hm1, T.cl_Machine, T.n_starts, by omega, ?_⟩⟩
    have nls : ls ≠ m := fun e => by rw [e, hm1] at hls; cases hls
    generalize eH2 : upd (upd H1 ls (.lst [])) m (.ins T.C_Machine dx (putF ("starts" : Str) (.ref ls) fs1)) = H2
    have hm2 : H2 m = some (.ins T.C_Machine dx (putF ("starts" : Str) (.ref ls) fs1)) := by rw [← eH2]; exact upd_same
    have k2 : ∀ x o, H x = some o → x ≠ m → H2 x = some o := fun x o e n => by rw [← eH2, upd_ne n, upd_ne (ne_of_none (k1 x o e n) hls)]; exact k1 x o e n
    have hS2 : H2 ls = some (.lst []) := by rw [← eH2, upd_ne nls]; exact upd_same
    have fS : H ls = none := by
      cases q : H ls with
      | none => rfl
      | some o => rw [k1 ls o q nls] at hls; cases hls
    generalize eF2 : putF ("starts" : Str) (.ref ls) fs1 = fs2 at hm2
    have lF2 : fs2.length ≤ 2 := by have := length_putF ("starts" : Str) (.ref ls) fs1; rw [eF2] at this; omega
    have b2 : fs2.lookup ("bodies" : Str) = some (.ref lb) := by rw [← eF2]; exact lkN (by decide +kernel) b1
    have st2 : fs2.lookup ("starts" : Str) = some (.ref ls) := by rw [← eF2]; exact lkS
    have o2 : ∀ x, x ∉ FN → fs2.lookup x = none := fun x hx => by rw [← eF2, lkO (notFN hx).2.1]; exact o1 x hx
    -- ends
    refine ⟨Nat.zero_le _, fun le hle => ⟨_, rfl, m, _, dx, fs2, rfl, (upd_ne (ne_of_none hm2 hle)).trans hm2, T.cl_Machine, T.n_ends, by omega, ?_⟩⟩
    have nle : le ≠ m := fun e => by rw [e, hm2] at hle; cases hle
    have nSE : ls ≠ le := ne_of_none hS2 hle
    generalize eH3 : upd (upd H2 le (.lst [])) m (.ins T.C_Machine dx (putF ("ends" : Str) (.ref le) fs2)) = H3
    have hm3 : H3 m = some (.ins T.C_Machine dx (putF ("ends" : Str) (.ref le) fs2)) := by rw [← eH3]; exact upd_same
    have k3 : ∀ x o, H x = some o → x ≠ m → H3 x = some o := fun x o e n => by rw [← eH3, upd_ne n, upd_ne (ne_of_none (k2 x o e n) hle)]; exact k2 x o e n
    have hS3 : H3 ls = some (.lst []) := by rw [← eH3, upd_ne nls, upd_ne nSE]; exact hS2
    have hE3 : H3 le = some (.lst []) := by rw [← eH3, upd_ne nle]; exact upd_same
    have fE : H le = none := by
      cases q : H le with
      | none => rfl
      | some o => rw [k2 le o q nle] at hle; cases hle
    generalize eF3 : putF ("ends" : Str) (.ref le) fs2 = fs3 at hm3
    have lF3 : fs3.length ≤ 3 := by have := length_putF ("ends" : Str) (.ref le) fs2; rw [eF3] at this; omega
    have b3 : fs3.lookup ("bodies" : Str) = some (.ref lb) := by rw [← eF3]; exact lkN (by decide +kernel) b2
    have st3 : fs3.lookup ("starts" : Str) = some (.ref ls) := by rw [← eF3]; exact lkN (by decide +kernel) st2
    have en3 : fs3.lookup ("ends" : Str) = some (.ref le) := by rw [← eF3]; exact lkS
    have o3 : ∀ x, x ∉ FN → fs3.lookup x = none := fun x hx => by rw [← eF3, lkO (notFN hx).2.2.1]; exact o2 x hx
    -- stars, held
    refine ⟨_, rfl, m, _, dx, fs3, rfl, hm3, T.cl_Machine, T.n_stars, by omega, _, rfl, m, _, dx, _, rfl, upd_same, T.cl_Machine, T.n_held, ?_, ?_⟩
    · have := length_putF ("stars" : Str) (.int 0) fs3
      omega
    generalize eF4 : putF ("held" : Str) (.int 0) (putF ("stars" : Str) (.int 0) fs3) = fs4
    generalize eH4 : upd (upd H3 m (.ins T.C_Machine dx (putF ("stars" : Str) (.int 0) fs3))) m (.ins T.C_Machine dx fs4) = H4
    have hm4 : H4 m = some (.ins T.C_Machine dx fs4) := by rw [← eH4]; exact upd_same
    have k4 : ∀ x o, H3 x = some o → x ≠ m → H4 x = some o := fun x o e n => by rw [← eH4, upd_ne n, upd_ne n]; exact e
    have lF4 : fs4.length ≤ 5 := by
      have h1 := length_putF ("stars" : Str) (.int 0) fs3
      have h2 := length_putF ("held" : Str) (.int 0) (putF ("stars" : Str) (.int 0) fs3)
      rw [eF4] at h2
      omega
    have b4 : fs4.lookup ("bodies" : Str) = some (.ref lb) := by rw [← eF4]; exact lkN (by decide +kernel) (lkN (by decide +kernel) b3)
    have st4 : fs4.lookup ("starts" : Str) = some (.ref ls) := by rw [← eF4]; exact lkN (by decide +kernel) (lkN (by decide +kernel) st3)
    have en4 : fs4.lookup ("ends" : Str) = some (.ref le) := by rw [← eF4]; exact lkN (by decide +kernel) (lkN (by decide +kernel) en3)
    have sa4 : fs4.lookup ("stars" : Str) = some (.int 0) := by rw [← eF4]; exact lkN (by decide +kernel) lkS
    have he4 : fs4.lookup ("held" : Str) = some (.int 0) := by rw [← eF4]; exact lkS
    have o4 : ∀ x, x ∉ FN → fs4.lookup x = none := fun x hx => by rw [← eF4, lkO (notFN hx).2.2.2.2.1, lkO (notFN hx).2.2.2.1]; exact o3 x hx
    -- moves
    refine fun md hmd => ⟨_, rfl, m, _, dx, fs4, rfl, (upd_ne (ne_of_none hm4 hmd)).trans hm4, T.cl_Machine, T.n_moves, by omega, ?_⟩
    have nmd : md ≠ m := fun e => by rw [e, hm4] at hmd; cases hmd
    have nSD : ls ≠ md := ne_of_none (k4 _ _ hS3 nls) hmd
    have nED : le ≠ md := ne_of_none (k4 _ _ hE3 nle) hmd
    generalize eH5 : upd (upd H4 md (.dK [])) m (.ins T.C_Machine dx (putF ("moves" : Str) (.ref md) fs4)) = H5
    have hm5 : H5 m = some (.ins T.C_Machine dx (putF ("moves" : Str) (.ref md) fs4)) := by rw [← eH5]; exact upd_same
    have k5 : ∀ x o, H x = some o → x ≠ m → H5 x = some o := fun x o e n => by
      have q := k4 x o (k3 x o e n) n
      rw [← eH5, upd_ne n, upd_ne (ne_of_none q hmd)]
      exact q
    have hS5 : H5 ls = some (.lst []) := by rw [← eH5, upd_ne nls, upd_ne nSD]; exact k4 _ _ hS3 nls
    have hE5 : H5 le = some (.lst []) := by rw [← eH5, upd_ne nle, upd_ne nED]; exact k4 _ _ hE3 nle
    have hD5 : H5 md = some (.dK []) := by rw [← eH5, upd_ne nmd]; exact upd_same
    have fD : H md = none := by
      cases q : H md with
      | none => rfl
      | some o => rw [k4 md o (k3 md o q nmd) nmd] at hmd; cases hmd
    generalize eF5 : putF ("moves" : Str) (.ref md) fs4 = fs5 at hm5
    have lF5 : fs5.length ≤ 6 := by have := length_putF ("moves" : Str) (.ref md) fs4; rw [eF5] at this; omega
    have b5 : fs5.lookup ("bodies" : Str) = some (.ref lb) := by rw [← eF5]; exact lkN (by decide +kernel) b4
    have st5 : fs5.lookup ("starts" : Str) = some (.ref ls) := by rw [← eF5]; exact lkN (by decide +kernel) st4
    have en5 : fs5.lookup ("ends" : Str) = some (.ref le) := by rw [← eF5]; exact lkN (by decide +kernel) en4
    have sa5 : fs5.lookup ("stars" : Str) = some (.int 0) := by rw [← eF5]; exact lkN (by decide +kernel) sa4
    have he5 : fs5.lookup ("held" : Str) = some (.int 0) := by rw [← eF5]; exact lkN (by decide +kernel) he4
    have mo5 : fs5.lookup ("moves" : Str) = some (.ref md) := by rw [← eF5]; exact lkS
    have o5 : ∀ x, x ∉ FN → fs5.lookup x = none := fun x hx => by rw [← eF5, lkO (notFN hx).2.2.2.2.2.1]; exact o4 x hx
    clear eF1 eF2 eF3 eF4 eF5 eH1 eH2 eH3 eH4 eH5 k1 k2 k3 k4
    -- the loop over the one body
    refine ⟨_, rfl, lb, rfl, ⟨_, SqL.of (k5 _ _ hlb nlb)⟩, for_list (K := K) (a := lb) (xs := [.str b]) (fun i σ H6 => H6 lb = some (.lst [.str b]) ∧
        ((i = 0 ∧ σ = [some (.ref m), some (.ref lb), some (.int 0), none] ∧ H6 = H5) ∨
        (i = 1 ∧ (∃ v2 v3, σ = [some (.ref m), some (.ref lb), v2, v3]) ∧ (∀ x o, H x = some o → x ≠ m → H6 x = some o) ∧ H6 ls = some (.lst [.int 0]) ∧ ∃ (fs6 : List (Str × V)) (kvs : List (Key × V)), H6 m = some (.ins T.C_Machine dx fs6) ∧ H6 md = some (.dK kvs) ∧
          fs6.lookup ("stars" : Str) = some (.int (starsOf (bl b) b.length : Nat)) ∧ fs6.lookup ("held" : Str) = some (.int (heldOf (bl b) b.length : Nat)) ∧ (∀ x, x ≠ ("stars" : Str) → x ≠ ("held" : Str) → fs6.lookup x = fs5.lookup x) ∧ fs6.length ≤ 126 ∧ Kv (bl b) b.length kvs)))
      ⟨k5 _ _ hlb nlb, .inl ⟨rfl, rfl, rfl⟩⟩ (fun _ _ _ _ h => SqL.of h.1) ?_ ?_⟩
    · rintro i y σ H6 hi ⟨hlb6, ⟨rfl, rfl, rfl⟩ | ⟨rfl, _⟩⟩
      · obtain rfl : V.str b = y := Option.some.inj hi
        have mz : b.length ≤ sizeLine := Nat.le_trans hb (by decide)
        refine ⟨_, rfl, m, _, dx, fs5, _, rfl, hm5, T.cl_Machine, T.n_starts, st5, .inl ⟨rfl, _, SqL.of hS5⟩, _, rfl, ls, _, _, rfl, rfl, hS5, (by decide), ?_⟩
        have hm6 := (upd_ne (o := HO.lst ([] ++ [V.int 0])) (Ne.symm nls)).trans hm5
        have hE6 : upd H6 ls (.lst ([] ++ [V.int 0])) le = some (.lst []) := by rw [upd_ne (Ne.symm nSE)]; exact hE5
        refine ⟨_, rfl, m, _, dx, fs5, _, rfl, hm6, T.cl_Machine, T.n_ends, en5, .inl ⟨rfl, _, SqL.of hE6⟩, _, rfl, _, rfl, _, rfl, mz, _, _, rfl, rfl, _, _, rfl, rfl, ⟨by omega, by omega, by decide⟩, le, _, _, rfl, rfl, hE6, (by decide), ?_⟩
        have hm7 := (upd_ne (o := HO.lst ([] ++ [V.int ((1 : Int) * 2 ^ ((0 : Int) + ((b.length : Nat) : Int)).toNat)])) (Ne.symm nle)).trans hm6
        have hD7 : upd (upd H6 ls (.lst ([] ++ [V.int 0]))) le (.lst ([] ++ [V.int ((1 : Int) * 2 ^ ((0 : Int) + ((b.length : Nat) : Int)).toNat)])) md = some (.dK []) := by
          rw [upd_ne (Ne.symm nED), upd_ne (Ne.symm nSD)]; exact hD5
        refine ⟨_, rfl, m, dx, fs5, rfl, hm7, o5 _ (by decide +kernel), _, rfl, _, rfl, m, dx, md, b, fs5, rfl, hm7, sa5, he5, mo5, hD7, by omega, hb, fun fs6 kvs H8 hm8 hD8 k8 sa8 he8 ot8 lF8 kv8 => ?_⟩
        refine ⟨_, rfl, _, rfl, _, rfl, mz, _, _, rfl, rfl, _, _, rfl, rfl, ?_⟩
        have keep : ∀ x o, H6 x = some o → x ≠ m → x ≠ md → x ≠ ls → x ≠ le → H8 x = some o := fun x o e n1 n2 n3 n4 => by
          refine k8 x o ?_ n1 n2
          rw [upd_ne n4, upd_ne n3]
          exact e
        have nlbd : lb ≠ md := fun e => by rw [e, fD] at hlb; cases hlb
        have nlbs : lb ≠ ls := fun e => by rw [e, fS] at hlb; cases hlb
        have nlbe : lb ≠ le := fun e => by rw [e, fE] at hlb; cases hlb
        refine ⟨keep _ _ hlb6 nlb nlbd nlbs nlbe, .inr ⟨rfl, ⟨_, _, rfl⟩, fun x o e n => ?_, ?_, fs6, kvs, hm8, hD8, sa8, he8, ot8, by omega, kv8⟩⟩
        · refine keep x o (k5 x o e n) n (fun z => ?_) (fun z => ?_) (fun z => ?_)
          · rw [z, fD] at e; cases e
          · rw [z, fS] at e; cases e
          · rw [z, fE] at e; cases e
        · refine k8 _ _ ?_ nls nSD
          rw [upd_ne nSE]
          exact upd_same
      · cases hi
    · rintro σ H6 ⟨hlb6, ⟨h, _⟩ | ⟨_, ⟨v2, v3, rfl⟩, k6, hS6, fs6, kvs, hm6, hD6, sa6, he6, ot6, lF6, kv6⟩⟩
      · cases h
      · have mo6 : fs6.lookup ("moves" : Str) = some (.ref md) := by rw [ot6 _ (by decide +kernel) (by decide +kernel)]; exact mo5
        have o6 : ∀ x, x ∉ FN → fs6.lookup x = none := fun x hx => by rw [ot6 x (notFN hx).2.2.2.1 (notFN hx).2.2.2.2.1]; exact o5 x hx
        refine ⟨_, rfl, m, dx, _, rfl, hm6, o6 _ (by decide +kernel), m, dx, md, fs6, kvs, rfl, hm6, mo6, hD6, kv6.str, Nat.le_trans kv6.len hb, fun p H7 s7 => ?_⟩
        refine ⟨_, rfl, m, _, dx, fs6, rfl, s7 _ _ hm6, T.cl_Machine, T.n_signs, by omega, ?_⟩
        refine k _ ⟨dx, lb, ls, md, _, kvs, upd_same, ⟨lkN (by decide +kernel) ?_, ?_⟩, ⟨lkN (by decide +kernel) ?_, ?_⟩, lkN (by decide +kernel) sa6, lkN (by decide +kernel) he6, ⟨lkN (by decide +kernel) mo6, ?_, kv6⟩, fun x hx => ?_⟩ fun x o e n => ?_
        · rw [ot6 _ (by decide +kernel) (by decide +kernel)]; exact b5
        · rw [upd_ne nlb]; exact s7 _ _ hlb6
        · rw [ot6 _ (by decide +kernel) (by decide +kernel)]; exact st5
        · rw [upd_ne nls]; exact s7 _ _ hS6
        · rw [upd_ne nmd]; exact s7 _ _ hD6
        · rw [lkO (notFN hx).2.2.2.2.2.2]; exact o6 x hx
        · rw [upd_ne n]; exact s7 _ _ (k6 x o e n)
end
end KP

set_option Elab.async false
set_option maxRecDepth 100000
set_option maxHeartbeats 4000000
set_option linter.all false
/-! Ours: the machine's steps. -/
namespace KP
open PySem PySem.Spec PyProof.Rows L2 Gr GxR PM
theorem iteP {c A B : Prop} [Decidable c] (hc : c) (h : A) : if c then A else B := by rw [if_pos hc]; exact h
theorem iteN {c A B : Prop} [Decidable c] (hc : ¬ c) (h : B) : if c then A else B := by rw [if_neg hc]; exact h
theorem starsLt (b : Str) : starsOf (bl b) b.length < 2 ^ b.length := bits_lt _ _
theorem pow61 {n s : Nat} (h : s < 2 ^ (n + 1)) (hn : n ≤ 60) : s < 2 ^ 63 := Nat.lt_of_lt_of_le h (Nat.pow_le_pow_right (by decide) (by omega))
theorem cpow1 {a n : Nat} (h : a < 2 ^ (n + 1)) (hn : n ≤ 60) : CPow (a : Int) 1 := by
  have := pow61 h hn
  refine ⟨by decide, by decide, ?_⟩
  have e : ((a : Nat) : Int).natAbs = a := rfl
  rw [e]
  exact Nat.lt_trans this (by decide)
theorem and_lt {a b n : Nat} (h : a < 2 ^ n) : a &&& b < 2 ^ n := Nat.lt_of_le_of_lt Nat.and_le_left h
def spClosed {K : PySem.W.Frag} {mg : Str → Option Value} (T : D K mg) : Sp := fun vs H Q _ => ∃ (m : Addr) (b : Str) (x : Nat), vs = [.ref m, .int (x : Nat)] ∧ Mach T H m b ∧ b.length ≤ 60 ∧ x < 2 ^ (b.length + 1) ∧
  ∀ c : Nat, (∀ i, c.testBit i = clo ((starsOf (bl b) b.length).testBit ·) (x.testBit ·) i) → Q (.int (c : Nat)) H
section
variable {P : Program} {w : World} {K : PySem.W.Frag} {mg : Str → Option Value} {base : Heap}
theorem sc_closed : FnScope ["self", "standing", "grown"] ["self", "standing"] (defScope s__closed) := ⟨rfl, rfl, rfl, by decide +kernel, rfl, by decide +kernel, by decide +kernel⟩
theorem ok_closed (T : D K mg) : FnOk P w K mg base CX0 1 T.f__closed T.d__closed ["self", "standing"] (spClosed T) := by
  refine T.U__closed.ok sc_closed (fun vs H Q E h => ?_) (fun cdv A outer s H vs Q E hr h => ?_)
  · obtain ⟨m, b, x, rfl, _⟩ := h
    rfl
  · obtain ⟨m, b, x, rfl, ⟨dx, lb, ls, md, fs, kvs, hm, ⟨l2, h2⟩, ⟨l3, h3⟩, l4, l5, _⟩, hb, hx, k⟩ := h
    have nd := sc_closed.nd
    refine ⟨_, pss_cons (ps_set (i := 2) nd rfl (.inl rfl) (pe_op op_or (pv 1) (pe_op op_shl (pe_op op_and (pv 1) (pe_fld (pv 0) rfl)) pe_int)))
      (pss_cons (ps_while PassesOwn.never (pt_cmpR op_ne (pv 2) (pv 1) (nomark _))
        (pss_cons (ps_set (i := 1) nd rfl (.inl rfl) (pv 2))
        (pss_one (ps_set (i := 2) nd rfl (.inl rfl) (pe_op op_or (pv 1) (pe_op op_shl (pe_op op_and (pv 1) (pe_fld (pv 0) rfl)) pe_int))))))
      (pss_one (ps_ret (pv 1)))), ?_⟩
    have ge : ∀ a : Nat, Builtin.bitOr (a : Int) (Builtin.bitAnd (a : Int) ((starsOf (bl b) b.length : Nat) : Int) * 2 ^ (1 : Int).toNat) = ((grow (starsOf (bl b) b.length) a : Nat) : Int) := fun a => by
      rw [nand, nshl1, nor]
      rfl
    have cp : ∀ a : Nat, a < 2 ^ (b.length + 1) → CPow (Builtin.bitAnd (a : Int) ((starsOf (bl b) b.length : Nat) : Int)) 1 := fun a ha => by
      rw [nand]
      exact cpow1 (and_lt ha) hb
    refine ⟨_, rfl, _, rfl, _, rfl, m, _, dx, fs, _, rfl, hm, T.cl_Machine, T.n_stars, l4, _, _, rfl, rfl, _, _, rfl, rfl, cp x hx, _, _, rfl, rfl, ?_⟩
    dsimp only
    rw [ge]
    refine ⟨fun n σ H' => H' = H ∧ ∃ a : Nat, σ = [some (.ref m), some (.int (a : Nat)), some (.int (grow (starsOf (bl b) b.length) a : Nat))] ∧ a < 2 ^ (b.length + 1) ∧ n = 2 ^ (b.length + 1) - a ∧ (∀ i, x.testBit i = true → a.testBit i = true) ∧
      ∀ i, a.testBit i = true → clo ((starsOf (bl b) b.length).testBit ·) (x.testBit ·) i = true, ⟨_, rfl, x, rfl, hx, rfl, fun i e => e, fun i e => ?_⟩, ?_⟩
    · cases i with
      | zero => exact e
      | succ i =>
        unfold clo
        rw [e]
        rfl
    · rintro n σ H' ⟨rfl, a, rfl, ha, rfl, h0, h1⟩
      refine ⟨_, rfl, _, rfl, rfl, _, rfl, ?_⟩
      by_cases hg : grow (starsOf (bl b) b.length) a = a
      · rw [hg]
        refine iteNS rfl ?_
        refine ⟨_, rfl, k a (clo_of (c := a) h0 h1 hg)⟩
      · have hlt : grow (starsOf (bl b) b.length) a < 2 ^ (b.length + 1) := grow_lt ha (starsLt b)
        have hge := grow_ge (starsOf (bl b) b.length) a
        have hn : (!decide (V.int ((grow (starsOf (bl b) b.length) a : Nat) : Int) = V.int ((a : Nat) : Int))) = true := by
          have : ¬ V.int ((grow (starsOf (bl b) b.length) a : Nat) : Int) = V.int ((a : Nat) : Int) := fun e => hg (Int.ofNat.inj (V.int.inj e))
          rw [decide_eq_false this]
          rfl
        refine iteP hn ?_
        refine ⟨fun σ' H'' => H'' = H' ∧ σ' = [some (.ref m), some (.int ((grow (starsOf (bl b) b.length) a : Nat) : Int)), some (.int (grow (starsOf (bl b) b.length) (grow (starsOf (bl b) b.length) a) : Nat))], ?_, ?_⟩
        · rintro σ' H'' ⟨rfl, rfl⟩
          refine ⟨2 ^ (b.length + 1) - grow (starsOf (bl b) b.length) a, by omega, rfl, _, rfl, hlt, rfl, fun i e => grow_keeps (h0 i e), grow_sub h1⟩
        · refine ⟨_, rfl, _, rfl, _, rfl, _, rfl, m, _, dx, fs, _, rfl, hm, T.cl_Machine, T.n_stars, l4, _, _, rfl, rfl, _, _, rfl, rfl, cp _ hlt, _, _, rfl, rfl, rfl, ?_⟩
          rw [← ge (grow (starsOf (bl b) b.length) a)]
          rfl
/-- one sign more -/
def spStep {K : PySem.W.Frag} {mg : Str → Option Value} (T : D K mg) : Sp := fun vs H Q _ => ∃ (m : Addr) (b : Str) (x c : Nat), vs = [.ref m, .int (x : Nat), .str ⟨#[c]⟩] ∧ Mach T H m b ∧ b.length ≤ 60 ∧ x < 2 ^ (b.length + 1) ∧
  ∀ y : Nat, (∀ i, y.testBit i = clo ((starsOf (bl b) b.length).testBit ·) ((stepped (bl b) b.length x c).testBit ·) i) → Q (.int (y : Nat)) H
theorem heldLt (b : Str) : heldOf (bl b) b.length < 2 ^ (b.length + 1) := by
  have := bits_lt (isSt (bl b)) b.length
  unfold heldOf
  rw [Nat.pow_succ]
  omega
theorem steppedLt (b : Str) (x c : Nat) : stepped (bl b) b.length x c < 2 ^ (b.length + 1) := by
  unfold stepped
  refine Nat.or_lt_two_pow ?_ ?_
  · have h1 : x &&& moveOf (bl b) c b.length < 2 ^ b.length := Nat.lt_of_le_of_lt Nat.and_le_right (bits_lt _ _)
    rw [Nat.pow_succ]
    omega
  · exact Nat.lt_of_le_of_lt Nat.and_le_right (heldLt b)
theorem sc_step : FnScope ["self", "standing", "sign", "moved"] ["self", "standing", "sign"] (defScope s_step) := ⟨rfl, rfl, rfl, by decide +kernel, rfl, by decide +kernel, by decide +kernel⟩
theorem ok_step (T : D K mg) : FnOk P w K mg base CX0 2 T.f_step T.d_step ["self", "standing", "sign"] (spStep T) := by
  refine T.U_step.ok sc_step (fun vs H Q E h => ?_) (fun cdv A outer s H vs Q E hr h => ?_)
  · obtain ⟨m, b, x, c, rfl, _⟩ := h
    rfl
  · obtain ⟨m, b, x, c, rfl, M, hb, hx, k⟩ := h
    obtain ⟨dx, lb, ls, md, fs, kvs, hm, ⟨l2, h2⟩, ⟨l3, h3⟩, l4, l5, ⟨l6, h6, kv⟩, l7⟩ := id M
    have nd := sc_step.nd
    have hu := hu_of hr
    refine ⟨_, pss_cons (ps_set (i := 3) nd rfl (.inl rfl) (pe_op op_shl (pe_op op_and (pv 1) (pe_dget2 hu (pe_fld (pv 0) rfl) (pv 2) pe_int ⟨by rfl, by rfl, by rfl, by rfl⟩)) pe_int))
      (pss_one (ps_ret (pe_meth (pv 0) T.cl_Machine T.M__closed (ok_closed T) hr T.b__closed .nil pass0 (pa_cons (pe_op op_or (pv 3) (pe_op op_and (pv 1) (pe_fld (pv 0) rfl))) pa_nil)))), ?_⟩
    have e0 : Builtin.bitAnd (x : Int) ((moveOf (bl b) c b.length : Nat) : Int) = ((x &&& moveOf (bl b) c b.length : Nat) : Int) := nand _ _
    refine ⟨_, rfl, _, rfl, m, _, dx, fs, _, rfl, hm, T.cl_Machine, T.n_moves, l6, md, rfl, .inl ⟨kvs, .inl h6⟩, _, rfl, _, DGet.k (k := Sum.inr (⟨#[c]⟩ : Str)) h6, _, _, rfl, kv.get c, _, _, rfl, rfl, ?_, ?_⟩
    · rw [nand]
      exact cpow1 (and_lt hx) hb
    · refine ⟨_, rfl, m, dx, fs, rfl, hm, l7 _ (by decide +kernel), _, rfl, _, rfl, _, rfl, m, _, dx, fs, _, rfl, hm, T.cl_Machine, T.n_held, l5, _, _, rfl, rfl, _, _, rfl, rfl, m, b, stepped (bl b) b.length x c, ?_, M, hb, steppedLt b x c, k⟩
      have : Builtin.bitOr (Builtin.bitAnd (x : Int) ((moveOf (bl b) c b.length : Nat) : Int) * 2 ^ (1 : Int).toNat) (Builtin.bitAnd (x : Int) ((heldOf (bl b) b.length : Nat) : Int)) = ((stepped (bl b) b.length x c : Nat) : Int) := by
        rw [nand, nand, nshl1, nor]
        rfl
      rw [← this]
      rfl
def spBegun {K : PySem.W.Frag} {mg : Str → Option Value} (T : D K mg) : Sp := fun vs H Q _ => ∃ (m : Addr) (b : Str), vs = [.ref m] ∧ Mach T H m b ∧ b.length ≤ 60 ∧ isSt (bl b) 0 = false ∧
  ∀ (y : Nat) (H' : Hp), Same H H' → Pl (bl b) [47] 1 y → Q (.int (y : Nat)) H'
theorem pl_zero {b : List Nat} (r : List Nat) (h : isSt b 0 = false) : Pl b r 0 1 := fun i => by
  rw [F_begin r h i]
  cases i with
  | zero => rfl
  | succ i =>
    rw [Nat.testBit_lt_two_pow (Nat.one_lt_two_pow (Nat.succ_ne_zero i))]
    have : ((i + 1) == 0) = false := rfl
    rw [this, Bool.and_false]
theorem pl_lt {b r : List Nat} {k s : Nat} (h : Pl b r k s) : s < 2 ^ (b.length + 1) := lt_of_test fun i hi => by
  rw [h i, decide_eq_false (by omega)]
  rfl
theorem sc_begun : FnScope ["self", "first"] ["self"] (defScope s_begun) := ⟨rfl, rfl, rfl, by decide +kernel, rfl, by decide +kernel, by decide +kernel⟩
theorem ok_begun (T : D K mg) : FnOk P w K mg base CX0 3 T.f_begun T.d_begun ["self"] (spBegun T) := by
  refine T.U_begun.ok sc_begun (fun vs H Q E h => ?_) (fun cdv A outer s H vs Q E hr h => ?_)
  · obtain ⟨m, b, rfl, _⟩ := h
    rfl
  · obtain ⟨m, b, rfl, M, hb, h0, k⟩ := h
    obtain ⟨dx, lb, ls, md, fs, kvs, hm, ⟨l2, h2⟩, ⟨l3, h3⟩, l4, l5, ⟨l6, h6, kv⟩, l7⟩ := id M
    have nd := sc_begun.nd
    refine ⟨_, pss_one (ps_ret (pe_meth (pv 0) T.cl_Machine T.M_step (ok_step T) hr T.b_step .nil pass0 (pa_cons (pe_callB (cr_sum rfl) (by rfl) T.sum (by decide +kernel) (pa_cons (pe_lc (own := [("first", 1)]) (g := gName 1) (tt := tYes) rfl nd (pi_list (pe_fld (pv 0) rfl)) (blkOk_by (N := ["self", "first"]) (sc := defScope s_begun) (by decide +kernel)) (fun _ _ _ _ _ => pg_name (i := 1) nd rfl (.inl rfl)) (fun _ _ _ _ _ => pts_nil) (fun _ _ _ _ _ => pe_op op_shl pe_int (pv 1))) pa_nil)) (pa_cons pe_str pa_nil)))), ?_⟩
    refine ⟨_, rfl, m, dx, fs, rfl, hm, l7 _ (by decide +kernel), _, rfl, m, _, dx, fs, _, rfl, hm, T.cl_Machine, T.n_starts, l3, ls, rfl, ⟨_, SqL.of h3⟩, fun D hD => lc_list (K := K) (a := ls) (xs := [.int 0]) (fun i H2 => Same H H2 ∧ H2 D = some (.lst (List.replicate i (.int 1))))
      ⟨same_upd hD, upd_same⟩ (fun i H2 _ h => SqL.of (h.1 _ _ h3)) ?_ ?_⟩
    · rintro i y H2 hi ⟨s2, hDs⟩
      have hi0 : i = 0 := by
        have := (List.getElem?_eq_some_iff.mp hi).1
        simpa using this
      subst hi0
      obtain rfl : V.int 0 = y := Option.some.inj hi
      refine ⟨rfl, ?_⟩
      unfold tYes
      refine iteT ⟨_, rfl, _, _, rfl, rfl, ⟨by decide, by decide, by decide⟩, _, hDs, by decide, same_into hD s2, upd_same⟩
    · rintro H2 ⟨s2, hDs⟩
      refine ⟨D, [1], rfl, SqL.of hDs, m, b, 1, 47, rfl, M.stay (.same s2), hb, ?_, fun y hy => k y _ s2 fun i => ?_⟩
      · exact Nat.one_lt_two_pow (by omega)
      · rw [hy i]
        exact clo_step (pl_zero [47] h0) rfl i
/-- all signs of a path -/
def spBehind {K : PySem.W.Frag} {mg : Str → Option Value} (T : D K mg) : Sp := fun vs H Q _ => ∃ (m : Addr) (b r : Str), vs = [.ref m, .str r] ∧ Mach T H m b ∧ b.length ≤ 60 ∧ isSt (bl b) 0 = false ∧ (bl r)[0]? = some 47 ∧ r.length ≤ 1000 ∧
  ∀ (y : Nat) (H' : Hp), Same H H' → Pl (bl b) (bl r) r.length y → Q (.int (y : Nat)) H'
theorem pl_local {b r r' : List Nat} {k s : Nat} (h : Pl b r k s) (e : ∀ j, j < k → r[j]? = r'[j]?) : Pl b r' k s := fun i => by rw [h i, F_local i k e]
theorem sc_behind : FnScope ["self", "path", "standing", "sign"] ["self", "path"] (defScope s_behind) := ⟨rfl, rfl, rfl, by decide +kernel, rfl, by decide +kernel, by decide +kernel⟩
theorem ok_behind (T : D K mg) : FnOk P w K mg base CX0 4 T.f_behind T.d_behind ["self", "path"] (spBehind T) := by
  refine T.U_behind.ok sc_behind (fun vs H Q E h => ?_) (fun cdv A outer s H vs Q E hr h => ?_)
  · obtain ⟨m, b, r, rfl, _⟩ := h
    rfl
  · obtain ⟨m, b, r, rfl, M, hb, h0, hr0, hrl, k⟩ := h
    obtain ⟨dx, lb, ls, md, fs, kvs, hm, ⟨l2, h2⟩, ⟨l3, h3⟩, l4, l5, ⟨l6, h6, kv⟩, l7⟩ := id M
    have nd := sc_behind.nd
    refine ⟨_, pss_cons (ps_set (i := 2) nd rfl (.inl rfl) (pe_meth0 (pv 0) T.cl_Machine T.M_begun (ok_begun T) hr T.b_begun .nil pass0))
      (pss_cons (ps_for PassesOwn.never rfl (pi_str (pe_slice sl_str (pv 1) (po_some pe_int) po_none)) (pg_name (i := 3) nd rfl (.inl rfl))
        (pss_one (ps_set (i := 2) nd rfl (.inl rfl) (pe_meth (pv 0) T.cl_Machine T.M_step (ok_step T) (hr.mono (by decide)) T.b_step .nil pass0 (pa_cons (pv 2) (pa_cons (pv 3) pa_nil))))))
      (pss_one (ps_ret (pv 2)))), ?_⟩
    refine ⟨_, rfl, m, dx, fs, rfl, hm, l7 _ (by decide +kernel), m, b, rfl, M, hb, h0, fun y0 H1 s1 hy0 => ?_⟩
    have hz : r.length ≤ sizeLine := Nat.le_trans hrl (by decide)
    have cutE : bl (cutS r (some 1) none) = (bl r).drop 1 := cut_from r 1
    have lr : 1 ≤ r.length := by
      rw [tx_len]
      exact (List.getElem?_eq_some_iff.mp hr0).1
    have lc : (cutS r (some 1) none).cps.size = r.length - 1 := by
      have : (cutS r (some 1) none).cps.size = (bl (cutS r (some 1) none)).length := rfl
      rw [this, cutE, List.length_drop]
      rfl
    refine ⟨_, rfl, _, rfl, r, rfl, hz, _, rfl, for_it (walk_str (z := cutS r (some 1) none)) (fun i σ H2 => H2 = H1 ∧ ∃ (y : Nat) (v : Option V), σ = [some (.ref m), some (.str r), some (.int (y : Nat)), v] ∧ Pl (bl b) (bl r) (i + 1) y) ⟨rfl, y0, none, rfl, ?_⟩ (fun _ _ _ _ _ => trivial) ?_ ?_⟩
    · refine pl_local hy0 fun j hj => ?_
      have : j = 0 := by omega
      subst this
      exact hr0.symm
    · rintro i x σ H2 H3 hi ⟨rfl, y, v, rfl, hy⟩ ⟨rfl, c, hc, rfl⟩
      have hc' : (bl r)[i + 1]? = some c := by
        have e1 : (bl (cutS r (some 1) none))[i]? = some c := (Array.getElem?_toList (xs := (cutS r (some 1) none).cps) (i := i)).trans hc
        rw [cutE, List.getElem?_drop] at e1
        rw [Nat.add_comm]
        exact e1
      refine ⟨_, rfl, m, dx, fs, rfl, s1 _ _ hm, l7 _ (by decide +kernel), _, rfl, _, rfl, m, b, y, c, rfl, M.stay (.same s1), hb, pl_lt hy, fun z hz => ⟨rfl, z, _, rfl, fun j => ?_⟩⟩
      rw [hz j]
      exact clo_step hy hc' j
    · rintro σ H2 ⟨rfl, y, v, rfl, hy⟩
      refine ⟨_, rfl, k y _ s1 ?_⟩
      have e : (cutS r (some 1) none).cps.size + 1 = r.length := by omega
      rw [e] at hy
      exact hy
/-- the places of a number, as a tuple -/
def spPlaces {K : PySem.W.Frag} {mg : Str → Option Value} (T : D K mg) : Sp := fun vs H Q _ => ∃ (m : Addr) (b : Str) (x : Nat), vs = [.ref m, .int (x : Nat), .int 0] ∧ Mach T H m b ∧ b.length ≤ 60 ∧
  ∀ (p : Addr) (H' : Hp), Same H H' → H p = none → H' p = some (.tup (((List.range (b.length + 1)).filter (x.testBit ·)).map fun i => V.int (i : Nat))) → Q (.ref p) H'
theorem shr_and (x i : Nat) : Builtin.bitAnd ((x : Int) / 2 ^ i) 1 = ((if x.testBit i then 1 else 0 : Nat) : Int) := by
  have e : ((x : Int) / 2 ^ i) = ((x / 2 ^ i : Nat) : Int) := by
    rw [Int.natCast_ediv, Int.natCast_pow]
    rfl
  rw [e]
  have := nand (x / 2 ^ i) 1
  rw [show ((1 : Nat) : Int) = 1 from rfl] at this
  rw [this]
  congr 1
  rw [Nat.and_one_is_mod, ← Nat.shiftRight_eq_div_pow]
  unfold Nat.testBit
  rw [Nat.one_and_eq_mod_two]
  rcases Nat.mod_two_eq_zero_or_one (x >>> i) with h | h <;> rw [h] <;> rfl
theorem sc_places : FnScope ["self", "standing", "which", "first", "many", "place"] ["self", "standing", "which"] (defScope s_places_of) := ⟨rfl, rfl, rfl, by decide +kernel, rfl, by decide +kernel, by decide +kernel⟩
theorem ok_places_of (T : D K mg) : FnOk P w K mg base CX0 1 T.f_places_of T.d_places_of ["self", "standing", "which"] (spPlaces T) := by
  refine T.U_places_of.ok sc_places (fun vs H Q E h => ?_) (fun cdv A outer s H vs Q E hr h => ?_)
  · obtain ⟨m, b, x, rfl, _⟩ := h
    rfl
  · obtain ⟨m, b, x, rfl, M, hb, k⟩ := h
    obtain ⟨dx, lb, ls, md, fs, kvs, hm, ⟨l2, h2⟩, ⟨l3, h3⟩, l4, l5, ⟨l6, h6, kv⟩, l7⟩ := id M
    have nd := sc_places.nd
    have hz : b.length ≤ sizeLine := Nat.le_trans hb (by decide)
    refine ⟨_, pss_cons (ps_set (i := 3) nd rfl (.inr rfl) (pe_ix ix_list (pe_fld (pv 0) rfl) (pv 2) (fun _ _ => rfl)))
      (pss_cons (ps_set (i := 4) nd rfl (.inl rfl) (pe_op op_add (pe_callB call_len_str (by rfl) T.len PySem.boot_len (pa_cons (pe_ix ix_list (pe_fld (pv 0) rfl) (pv 2) (fun _ _ => rfl)) pa_nil)) pe_int))
      (pss_one (ps_ret (pe_callTy call_tuple_of (by rfl) T.tuple (by decide +kernel) (pa_cons (pe_lc (own := [("place", 5)]) (g := gName 5) rfl nd (pi_range1 rfl T.range (pa_cons (pv 4) pa_nil)) (blkOk_by (N := ["self", "standing", "which", "first", "many", "place"]) (sc := defScope s_places_of) (by decide +kernel)) (fun _ _ _ _ _ => pg_name (i := 5) nd rfl (.inl rfl)) (fun _ _ _ _ _ => (pts_one (pt_truthB (pe_op op_and (pe_op op_shr (pv 1) (pe_op op_add (pv 3) (pv 5))) pe_int) (by intro _; rfl)))) (fun _ _ _ _ _ => pv 5)) pa_nil))))), ?_⟩
    refine ⟨_, rfl, m, _, dx, fs, _, rfl, hm, T.cl_Machine, T.n_starts, l3, _, rfl, ls, _, 0, _, rfl, rfl, SqL.of h3, rfl, ?_⟩
    refine ⟨_, rfl, m, _, dx, fs, _, rfl, hm, T.cl_Machine, T.n_bodies, l2, _, rfl, lb, _, 0, _, rfl, rfl, SqL.of h2, rfl, _, rfl, hz, _, _, rfl, rfl, ?_⟩
    refine ⟨_, rfl, _, rfl, by omega, by omega, fun D hD => lc_range (lo := 0) (n := _) (fun i H2 => Same H H2 ∧ H2 D = some (.lst (((List.range i).filter (x.testBit ·)).map fun i => V.int (i : Nat)))) ⟨same_upd hD, upd_same⟩ ?_ ?_⟩
    · rintro i H2 hi ⟨s2, hDs⟩
      have hi' : i < b.length + 1 := by omega
      refine ⟨rfl, ?_⟩
      refine ⟨_, rfl, _, rfl, _, rfl, _, _, rfl, rfl, _, _, rfl, rfl, by omega, _, _, rfl, rfl, x.testBit i, ?_, ?_⟩
      · have e1 : ((0 : Int) + (0 + (i : Nat))).toNat = i := by omega
        show x.testBit i = (Builtin.bitAnd ((x : Int) / 2 ^ ((0 : Int) + (0 + (i : Nat))).toNat) 1 != 0)
        rw [e1, shr_and]
        cases x.testBit i <;> rfl
      · have er : ((List.range (i + 1)).filter (x.testBit ·)).map (fun i => V.int (i : Nat)) = ((List.range i).filter (x.testBit ·)).map (fun i => V.int (i : Nat)) ++ (if x.testBit i then [V.int (i : Nat)] else []) := by
          rw [List.range_succ, List.filter_append, List.map_append]
          cases ht : x.testBit i <;> simp [ht]
        cases ht : x.testBit i with
        | true =>
          refine iteT ⟨_, rfl, _, hDs, ?_, same_into hD s2, ?_⟩
          · rw [List.length_map]
            have h1 := List.length_filter_le (x.testBit ·) (List.range i)
            rw [List.length_range] at h1
            exact small1000 (by omega)
          · rw [upd_same, er, ht]
            have e0 : (0 : Int) + ((i : Nat) : Int) = ((i : Nat) : Int) := by omega
            rw [e0]
            rfl
        | false =>
          refine iteF ⟨s2, ?_⟩
          rw [er, ht, hDs]
          simp
    · rintro H2 ⟨s2, hDs⟩
      refine ⟨D, _, rfl, .inl ⟨SqL.of hDs, fun l hl => ?_⟩⟩
      have en : ((b.length : Int) + 1).toNat = b.length + 1 := by omega
      rw [en]
      exact k l _ (same_into (s2.free hl) s2) (s2.free hl) upd_same
end
end KP

set_option Elab.async false
set_option maxRecDepth 100000
set_option maxHeartbeats 4000000
set_option linter.all false
/-! Ours: places and meets. -/
namespace KP
open PySem PySem.Spec PyProof.Rows L2 Gr GxR PM
section
variable {K : PySem.W.Frag} {mg : Str → Option Value} {T : D K mg} {H H1 H2 : Hp}
theorem TT2.same (h : TT2 T H) (s : Same H H1) : TT2 T H1 := ⟨let ⟨ps, a, b⟩ := h.1; ⟨ps, s _ _ a, b⟩, let ⟨ps, a, b⟩ := h.2; ⟨ps, s _ _ a, b⟩⟩
theorem Up.refl (h : TT2 T H) : Up T H H := ⟨h, fun _ _ _ _ e => e⟩
theorem Up.trans (a : Up T H H1) (b : Up T H1 H2) : Up T H H2 := ⟨b.1, fun x n1 n2 o e => b.2 x n1 n2 o (a.2 x n1 n2 o e)⟩
theorem Up.same (h : TT2 T H) (s : Same H H1) : Up T H H1 := ⟨h.same s, fun x _ _ o e => s x o e⟩
theorem Up.path (h : TT2 T H) (t : Tabbed T.P_is_path H H1) : Up T H H1 := by
  refine ⟨⟨t.1, ?_⟩, fun x n _ o e => (t.2 x n).trans e⟩
  by_cases q : T.P_is_pattern = T.P_is_path
  · rw [q]
    exact t.1
  · obtain ⟨ps, a, b⟩ := h.2
    exact ⟨ps, (t.2 _ q).trans a, b⟩
theorem Up.pat (h : TT2 T H) (t : Tabbed T.P_is_pattern H H1) : Up T H H1 := by
  refine ⟨⟨?_, t.1⟩, fun x _ n o e => (t.2 x n).trans e⟩
  by_cases q : T.P_is_path = T.P_is_pattern
  · rw [q]
    exact t.1
  · obtain ⟨ps, a, b⟩ := h.1
    exact ⟨ps, (t.2 _ q).trans a, b⟩
theorem Up.stay (h : TT2 T H) (u : Up T H H1) : Stay H H1 := fun a o e n => by
  obtain ⟨⟨p1, e1, _⟩, ⟨p2, e2, _⟩⟩ := h
  refine u.2 a (fun z => ?_) (fun z => ?_) o e
  · rw [z, e1] at e
    exact n _ (Option.some.inj e).symm
  · rw [z, e2] at e
    exact n _ (Option.some.inj e).symm
end
/-! bodies -/
theorem body_list (z : Str) : bl (bodyOf z) = if (bl z).getLast? == some 36 then (bl z).dropLast else bl z ++ [42] := by
  unfold bodyOf
  cases h : (bl z).getLast? == some 36 with
  | true =>
    have : (if true = true then cutS z none (some (-1)) else z ++ ("*" : Str)) = cutS z none (some (-1)) := rfl
    show bl (if true = true then cutS z none (some (-1)) else z ++ ("*" : Str)) = _
    rw [this]
    exact cut_head z
  | false =>
    show bl (z ++ ("*" : Str)) = _
    rw [lit_star]
    exact tx_app _ _
theorem isPat_inner {z : Str} (h : isPat z = true) : (innerOf z)[0]? = some 47 ∧ ∀ c ∈ innerOf z, c = 42 ∨ c ∈ SG := by
  unfold isPat at h
  rw [Bool.and_eq_true, Bool.and_eq_true] at h
  obtain ⟨_, h2⟩ := h
  rw [Bool.and_eq_true] at h2
  refine ⟨by simpa using h2.1, fun c hc => ?_⟩
  have := List.all_eq_true.mp h2.2 c hc
  simpa using this
theorem body_first {z : Str} (h : isPat z = true) : (bl (bodyOf z))[0]? = some 47 := by
  have h1 := (isPat_inner h).1
  rw [body_list]
  unfold innerOf at h1
  by_cases q : ((bl z).getLast? == some 36) = true
  · rw [if_pos q] at h1 ⊢
    exact h1
  · rw [if_neg q] at h1 ⊢
    obtain ⟨l, e⟩ := List.getElem?_eq_some_iff.mp h1
    rw [List.getElem?_append_left l]
    exact h1
theorem body_st0 {z : Str} (h : isPat z = true) : isSt (bl (bodyOf z)) 0 = false := by
  unfold isSt
  rw [body_first h]
  rfl
theorem body_len {z : Str} (h : isPat z = true) : (bodyOf z).length ≤ 13 := by
  have l := isPat_len h
  have e : (bodyOf z).length = (bl (bodyOf z)).length := rfl
  rw [e, body_list]
  have e2 : z.length = (bl z).length := rfl
  split
  · rw [List.length_dropLast]
    omega
  · rw [List.length_append, List.length_singleton]
    omega
def plcs (b r : List Nat) : List Nat := (List.range (b.length + 1)).filter fun i => F b r i r.length
theorem plcs_of {b r : List Nat} {y : Nat} (h : Pl b r r.length y) : ((List.range (b.length + 1)).filter (y.testBit ·)) = plcs b r := by
  unfold plcs
  refine List.filter_congr fun i hi => ?_
  rw [h i, decide_eq_true (by have := List.mem_range.mp hi; omega), Bool.true_and]
def met (b r : List Nat) : Bool := F b r b.length r.length
theorem plcs_in (b r : List Nat) : inV (.int (b.length : Nat)) ((plcs b r).map fun i => V.int (i : Nat)) = met b r := by
  unfold inV met
  rw [Bool.eq_iff_iff, List.any_eq_true]
  constructor
  · rintro ⟨v, hv, e⟩
    obtain ⟨i, hi, rfl⟩ := List.mem_map.mp hv
    have : (i : Int) = (b.length : Nat) := by
      have q : (((i : Nat) : Int) == ((b.length : Nat) : Int)) = true := e
      simpa using q
    have hib : i = b.length := by omega
    rw [← hib]
    exact (List.mem_filter.mp hi).2
  · intro h
    refine ⟨.int (b.length : Nat), List.mem_map.mpr ⟨b.length, List.mem_filter.mpr ⟨List.mem_range.mpr (Nat.lt_succ_self _), h⟩, rfl⟩, ?_⟩
    show (((b.length : Nat) : Int) == ((b.length : Nat) : Int)) = true
    simp
theorem plcs_flat (l : List Nat) : (l.map fun i => V.int (i : Nat)).all flatV = true := by
  rw [List.all_eq_true]
  intro v hv
  obtain ⟨i, _, rfl⟩ := List.mem_map.mp hv
  rfl
theorem isPath_first {r : Str} (h : isPath r = true) : (bl r)[0]? = some 47 := by
  unfold isPath at h
  rw [Bool.and_eq_true] at h
  simpa using h.1
def spPlcs {K : PySem.W.Frag} {mg : Str → Option Value} (T : D K mg) : Sp := fun vs H Q _ => ∃ z r : Str, vs = [.str z, .str r] ∧ isPat z = true ∧ isPath r = true ∧ r.length ≤ 1000 ∧ TT2 T H ∧
  ∀ (p : Addr) (H' : Hp), Up T H H' → H' p = some (.tup ((plcs (bl (bodyOf z)) (bl r)).map fun i => V.int (i : Nat))) → Q (.ref p) H'
def spMeets {K : PySem.W.Frag} {mg : Str → Option Value} (T : D K mg) : Sp := fun vs H Q _ => ∃ z r : Str, vs = [.str z, .str r] ∧ isPat z = true ∧ isPath r = true ∧ r.length ≤ 1000 ∧ TT2 T H ∧
  ∀ H', Up T H H' → Q (.bl (met (bl (bodyOf z)) (bl r))) H'
section
variable {P : Program} {w : World} {K : PySem.W.Frag} {mg : Str → Option Value} {base : Heap}
theorem sc_plcs : FnScope ["pattern", "path", "machine"] ["pattern", "path"] (defScope s_places) := ⟨rfl, rfl, rfl, by decide +kernel, rfl, by decide +kernel, by decide +kernel⟩
theorem ok_places (T : D K mg) (TB : Tabs base T) : FnOk P w K mg base CX0 5 T.f_places T.d_places ["pattern", "path"] (spPlcs T) := by
  refine T.U_places.ok sc_plcs (fun vs H Q E h => ?_) (fun cdv A outer s H vs Q E hr h => ?_)
  · obtain ⟨z, r, rfl, _⟩ := h
    rfl
  · obtain ⟨z, r, rfl, hz, hrp, hrl, hT, k⟩ := h
    have nd := sc_plcs.nd
    refine ⟨_, pss_cons (ps_set (i := 2) nd rfl (.inl rfl) (pe_make T.mk_Machine (ok_init T) (hr.mono (by decide)) rfl T.g_Machine T.b_init .nil pass0 (pa_cons (pe_lst (pa_cons (pe_call (ok_body_of T TB) hr rfl T.g_body_of T.U_body_of.kp T.b_body_of .nil pass0 (pa_cons (pv 0) pa_nil)) pa_nil)) pa_nil)))
      (pss_cons (ps_expr (pe_call (ok_check_path T TB) (hr.mono (by decide)) rfl T.g_check_path T.U_check_path.kp T.b_check_path .nil pass0 (pa_cons (pv 1) pa_nil)))
      (pss_one (ps_ret (pe_meth (pv 2) T.cl_Machine T.M_places_of (ok_places_of T) (hr.mono (by decide)) T.b_places_of .nil pass0 (pa_cons (pe_meth (pv 2) T.cl_Machine T.M_behind (ok_behind T) hr T.b_behind .nil pass0 (pa_cons (pv 1) pa_nil)) (pa_cons pe_int pa_nil)))))), ?_⟩
    have lb := body_len hz
    refine ⟨_, rfl, z, rfl, hz, hT.2, fun H1 t1 => ⟨by show 1 ≤ sizeLine; decide, fun q hq m dx hm hdx ne => ?_⟩⟩
    have u1 := Up.pat hT t1
    have hqm : q ≠ m := fun e => by rw [← e, upd_same] at hm; cases hm
    have hqd : q ≠ dx := fun e => by rw [← e, upd_same] at hdx; cases hdx
    have s2 : Same H1 (upd H1 q (.lst [.str (bodyOf z)])) := same_upd hq
    have s3 : Same (upd H1 q (.lst [.str (bodyOf z)])) (upd (upd (upd H1 q (.lst [.str (bodyOf z)])) dx (.own m)) m (.ins T.C_Machine dx [])) := fun b o e => by
      rw [upd_ne (ne_of_none e hm), upd_ne (ne_of_none e hdx)]
      exact e
    refine ⟨m, q, dx, bodyOf z, rfl, upd_same, s3 _ _ upd_same, by omega, fun H4 M k4 => ⟨rfl, ?_⟩⟩
    have s4 : Same H1 H4 := fun x o e => by
      refine k4 x o (s3 x o (s2 x o e)) fun z => ?_
      rw [z] at e
      have := s2 _ _ e
      rw [hm] at this
      cases this
    have u4 : Up T H H4 := u1.trans (Up.same u1.1 s4)
    refine ⟨_, rfl, r, rfl, hrp, u4.1.1, fun H5 t5 => ?_⟩
    have u5 := u4.trans (Up.path u4.1 t5)
    have M5 : Mach T H5 m (bodyOf z) := M.stay ((Up.path u4.1 t5).stay u4.1)
    obtain ⟨dx5, lb5, ls5, md5, fs5, kvs5, hm5, _, _, _, _, _, l7⟩ := id M5
    refine ⟨_, rfl, m, dx5, fs5, rfl, hm5, l7 _ (by decide +kernel), _, rfl, m, dx5, fs5, rfl, hm5, l7 _ (by decide +kernel), _, rfl, m, bodyOf z, r, rfl, M5, by omega, body_st0 hz, isPath_first hrp, hrl, fun y H6 s6 hy => ?_⟩
    refine ⟨m, bodyOf z, y, rfl, M5.stay (.same s6), by omega, fun p H7 s7 hp7 e7 => ?_⟩
    have u7 := u5.trans (Up.same u5.1 (s6.trans s7))
    have hy' : Pl (bl (bodyOf z)) (bl r) (bl r).length y := hy
    have e8 : (List.range ((bodyOf z).length + 1)).filter (y.testBit ·) = plcs (bl (bodyOf z)) (bl r) := plcs_of hy'
    rw [e8] at e7
    exact k p H7 u7 e7
theorem sc_meets : FnScope ["pattern", "path", "body"] ["pattern", "path"] (defScope s_meets) := ⟨rfl, rfl, rfl, by decide +kernel, rfl, by decide +kernel, by decide +kernel⟩
theorem ok_meets (T : D K mg) (TB : Tabs base T) : FnOk P w K mg base CX0 6 T.f_meets T.d_meets ["pattern", "path"] (spMeets T) := by
  refine T.U_meets.ok sc_meets (fun vs H Q E h => ?_) (fun cdv A outer s H vs Q E hr h => ?_)
  · obtain ⟨z, r, rfl, _⟩ := h
    rfl
  · obtain ⟨z, r, rfl, hz, hrp, hrl, hT, k⟩ := h
    have nd := sc_meets.nd
    refine ⟨_, pss_cons (ps_set (i := 2) nd rfl (.inl rfl) (pe_call (ok_body_of T TB) (hr.mono (by decide)) rfl T.g_body_of T.U_body_of.kp T.b_body_of .nil pass0 (pa_cons (pv 0) pa_nil)))
      (pss_one (ps_ret (pe_cmpR op_in_seq (pe_callB call_len_str (by rfl) T.len PySem.boot_len (pa_cons (pv 2) pa_nil)) (pe_call (ok_places T TB) hr rfl T.g_places T.U_places.kp T.b_places .nil pass0 (pa_cons (pv 0) (pa_cons (pv 1) pa_nil))) rfl))), ?_⟩
    have lb := body_len hz
    refine ⟨_, rfl, z, rfl, hz, hT.2, fun H1 t1 => ?_⟩
    have u1 := Up.pat hT t1
    refine ⟨_, rfl, _, rfl, Nat.le_trans lb (by decide), _, rfl, _, rfl, z, r, rfl, hz, hrp, hrl, u1.1, fun p H2 u2 e2 => ?_⟩
    refine ⟨p, _, rfl, .inr (.inl (.inl e2)), rfl, plcs_flat _, ?_⟩
    have q := k H2 (u1.trans u2)
    rw [← plcs_in] at q
    exact q
end
end KP

set_option Elab.async false
set_option maxRecDepth 100000
set_option maxHeartbeats 4000000
set_option linter.all false
/-! Ours: the law's helpers: signs, an alphabet, bodies, the table of truths. -/
namespace KP
open PySem PySem.Spec PyProof.Rows L2 Gr GxR PM
def OneS (v : V) : Prop := ∃ c ∈ SG, v = .str ⟨#[c]⟩
def spSigns : Sp := fun vs H Q _ => vs = [] ∧ Q (.str SGs) H
def spAlph : Sp := fun vs H Q _ => ∃ p : Addr, vs = [.ref p] ∧ Well H p ∧ ∀ (q : Addr) (xs : List V) (H' : Hp), H q = none → But H H' p → Well H' p → H' q = some (.lst xs) → 0 < xs.length → xs.length ≤ 9 → (∀ v ∈ xs, OneS v) → Q (.ref q) H'
def spLBody : Sp := fun vs H Q _ => ∃ z, vs = [.str z] ∧ isPat z = true ∧ Q (.str (bodyOf z)) H
def spFits : Sp := fun vs H Q _ => ∃ b r : Str, vs = [.str b, .str r] ∧ b.length ≤ 1000 ∧ r.length ≤ 1000 ∧ ∀ H', Same H H' → Q (.bl (met (bl b) (bl r))) H'
def spLMeets : Sp := fun vs H Q _ => ∃ z r : Str, vs = [.str z, .str r] ∧ isPat z = true ∧ r.length ≤ 1000 ∧ ∀ H', Same H H' → Q (.bl (met (bl (bodyOf z)) (bl r))) H'
theorem SGs_len : SGs.length ≤ 1000 := by decide +kernel
theorem SGs_pos : 0 < SGs.length := by decide +kernel
theorem slash_in : 47 ∈ SG := by decide +kernel
theorem But.mk' {H H' : Hp} {p : Addr} (s : Same H H') : But H H' p := fun b o e _ => s b o e
theorem last_item (z : Str) (h : 1 ≤ z.length) : ∃ c, atI z.cps.toList (-1) = some c ∧ z.cps.toList.getLast? = some c := by
  have hn : z.cps.toList ≠ [] := fun e => by
    rw [tx_len, e] at h
    exact absurd h (by decide)
  refine ⟨z.cps.toList.getLast hn, ?_, List.getLast?_eq_some_getLast hn⟩
  have := atI_last z.cps.toList.dropLast (z.cps.toList.getLast hn)
  rw [List.dropLast_concat_getLast hn] at this
  exact this
section
variable {P : Program} {w : World} {K : PySem.W.Frag} {mg : Str → Option Value} {base : Heap}
theorem sc_l_signs : FnScope [] [] (defScope s_l_signs) := ⟨rfl, rfl, rfl, by decide +kernel, rfl, by decide +kernel, by decide +kernel⟩
theorem ok_l_signs (T : D K mg) : FnOk P w K mg base CX0 1 T.f_l_signs T.d_l_signs [] spSigns := by
  refine T.U_l_signs.ok sc_l_signs (fun vs H Q E h => ?_) (fun cdv A outer s H vs Q E hr h => ?_)
  · rw [h.1]
    rfl
  · obtain ⟨rfl, q⟩ := h
    exact ⟨_, pss_one (ps_ret pe_str), q⟩
theorem sc_alph : FnScope ["_law_well_here", "_law_turn"] ["_law_well_here"] (defScope s_l_alphabet) := ⟨rfl, rfl, rfl, by decide +kernel, rfl, by decide +kernel, by decide +kernel⟩
theorem ok_l_alphabet (T : D K mg) : FnOk P w K mg base CX0 3 T.f_l_alphabet T.d_l_alphabet ["_law_well_here"] spAlph := by
  refine T.U_l_alphabet.ok sc_alph (fun vs H Q E h => ?_) (fun cdv A outer s H vs Q E hr h => ?_)
  · obtain ⟨p, rfl, _⟩ := h
    rfl
  · obtain ⟨p, rfl, hp, k⟩ := h
    have nd := sc_alph.nd
    refine ⟨_, pss_one (ps_ret (pe_op op_cat (pe_lc (own := [("_law_turn", 1)]) (g := gName 1) (tt := tYes) rfl nd (pi_range1 rfl T.range (pa_cons (pe_op op_add pe_int (pe_call (ok_l_pick T) (hr.mono (by decide)) rfl T.g_l_pick T.U_l_pick.kp T.b_l_pick .nil pass0 (pa_cons (pv 0) (pa_cons pe_int pa_nil)))) pa_nil)) (blkOk_by (N := ["_law_well_here", "_law_turn"]) (sc := defScope s_l_alphabet) (by decide +kernel)) (fun _ _ _ _ _ => pg_name (i := 1) nd rfl (.inl rfl)) (fun _ _ _ _ _ => pts_nil) (fun _ _ _ _ _ => pe_call (ok_l_oneS T) hr rfl T.g_l_one T.U_l_one.kp T.b_l_one .nil pass0 (pa_cons (pv 0) (pa_cons (pe_call0 (ok_l_signs T) (hr.mono (by decide)) (by rfl) T.g_l_signs T.U_l_signs.kp T.b_l_signs .nil pass0) pa_nil)))) (pe_op op_rep (pe_lst (pa_cons pe_str pa_nil)) (pe_call (ok_l_pick T) (hr.mono (by decide)) rfl T.g_l_pick T.U_l_pick.kp T.b_l_pick .nil pass0 (pa_cons (pv 0) (pa_cons pe_int pa_nil)))))), ?_⟩
    have npD : ∀ {H1 : Hp} {D : Addr}, Well H1 p → H1 D = none → D ≠ p := fun {H1 D} ⟨_, _, _, e⟩ hD z => by
      rw [z, e] at hD
      cases hD
    refine ⟨_, rfl, p, 2, rfl, hp, by decide, by decide, fun n H1 n0 n1 w1 b1 => ⟨_, _, rfl, rfl, ?_⟩⟩
    refine ⟨_, rfl, by omega, by omega, fun D hD => lc_range (lo := 0) (n := _) (fun i H2 => But H1 H2 p ∧ Well H2 p ∧ ∃ xs : List V, H2 D = some (.lst xs) ∧ xs.length = i ∧ ∀ v ∈ xs, OneS v) ⟨But.mk' (same_upd hD), ?_, [], upd_same, rfl, fun v hv => nomatch hv⟩ ?_ ?_⟩
    · obtain ⟨a, b, c, e⟩ := w1
      exact ⟨a, b, c, (upd_ne (Ne.symm (npD ⟨a, b, c, e⟩ hD))).trans e⟩
    · rintro i H2 hi ⟨b2, w2, xs, hDs, hl, hx⟩
      have hi3 : i < 3 := by omega
      refine ⟨rfl, ?_⟩
      unfold tYes
      refine iteT ⟨_, rfl, ?_⟩
      refine ⟨rfl, p, SGs, rfl, w2, SGs_pos, SGs_len, fun c H3 hc w3 b3 => ⟨xs, b3 _ _ hDs (npD w1 hD), ?_, ?_, ?_, xs ++ [.str ⟨#[c]⟩], upd_same, ?_, ?_⟩⟩
      · exact small1000 (by omega)
      · intro x o e n
        have q := b3 _ _ (b2 _ _ e n) n
        rw [upd_ne (ne_of_none e hD)]
        exact q
      · obtain ⟨a, b, c', e⟩ := w3
        exact ⟨a, b, c', (upd_ne (Ne.symm (npD w1 hD))).trans e⟩
      · rw [List.length_append, hl]
        rfl
      · intro v hv
        rcases List.mem_append.mp hv with q | q
        · exact hx v q
        · rw [List.mem_singleton.mp q]
          exact ⟨c, hc, rfl⟩
    · rintro H2 ⟨b2, w2, xs, hDs, hl, hx⟩
      refine ⟨by show 1 ≤ sizeLine; decide, fun l hl2 => ?_⟩
      have s3 : Same H2 (upd H2 l (.lst [.str "/"])) := same_upd hl2
      have w3 : Well (upd H2 l (.lst [.str "/"])) p := let ⟨a, b, c, e⟩ := w2; ⟨a, b, c, s3 _ _ e⟩
      have nlp : l ≠ p := npD w2 hl2
      refine ⟨_, rfl, p, 2, rfl, w3, by decide, by decide, fun m H4 m0 m1 w4 b4 => ?_⟩
      refine ⟨l, m, _, rfl, rfl, b4 _ _ upd_same nlp, by omega, by omega, ?_, fun r hr2 => ?_⟩
      · show 1 * m.toNat ≤ sizeLine
        have : 2 ≤ sizeLine := by decide
        omega
      · have hD4 : H4 D = some (.lst xs) := b4 _ _ (s3 _ _ hDs) (npD w1 hD)
        have s5 : Same H4 (upd H4 r (.lst ((List.replicate m.toNat [V.str "/"]).flatten))) := same_upd hr2
        have lm : m.toNat ≤ 1 := by omega
        have lrep : ((List.replicate m.toNat [V.str "/"]).flatten).length = m.toNat := by simp
        have ln2 : (2 + n).toNat ≤ 3 := by omega
        have ln3 : 0 < (2 + n).toNat := by omega
        have hl' : xs.length = (2 + n).toNat := hl
        refine ⟨D, r, xs, _, rfl, rfl, s5 _ _ hD4, upd_same, ?_, fun q hq => ?_⟩
        · have : 100 ≤ sizeLine := by decide
          rw [lrep]
          omega
        · refine k q _ _ ?_ ?_ ?_ upd_same ?_ ?_ ?_
          · cases e : H q with
            | none => rfl
            | some o =>
              by_cases z : q = p
              · obtain ⟨a, b, c, ew⟩ := w4
                rw [z, s5 _ _ ew] at hq
                cases hq
              · rw [s5 _ _ (b4 _ _ (s3 _ _ (b2 _ _ (b1 _ _ e z) z)) z)] at hq
                cases hq
          · intro x o e n
            exact same_upd hq _ _ (s5 _ _ (b4 _ _ (s3 _ _ (b2 _ _ (b1 _ _ e n) n)) n))
          · obtain ⟨a, b, c, e⟩ := w4
            exact ⟨a, b, c, same_upd hq _ _ (s5 _ _ e)⟩
          · rw [List.length_append]
            omega
          · rw [List.length_append, lrep]
            omega
          · intro v hv
            rcases List.mem_append.mp hv with q1 | q1
            · exact hx v q1
            · obtain ⟨l', hl', e'⟩ := List.mem_flatten.mp q1
              rw [List.eq_of_mem_replicate hl'] at e'
              rw [List.mem_singleton.mp e', lit_slash]
              exact ⟨47, slash_in, rfl⟩
theorem sc_lbody : FnScope ["_law_shape"] ["_law_shape"] (defScope s_l_body) := ⟨rfl, rfl, rfl, by decide +kernel, rfl, by decide +kernel, by decide +kernel⟩
theorem ok_l_body (T : D K mg) : FnOk P w K mg base CX0 1 T.f_l_body T.d_l_body ["_law_shape"] spLBody := by
  refine T.U_l_body.ok sc_lbody (fun vs H Q E h => ?_) (fun cdv A outer s H vs Q E hr h => ?_)
  · obtain ⟨z, rfl, _⟩ := h
    rfl
  · obtain ⟨z, rfl, hz, k⟩ := h
    have lz := isPat_len hz
    have l13 : 13 ≤ sizeLine := by decide
    refine ⟨_, pss_one (ps_ret (pe_ifExp (PW.pt (pw_and (pt_cmpR op_gt (pe_callB call_len_str (by rfl) T.len PySem.boot_len (pa_cons (pv 0) pa_nil)) pe_int (nomark _)) (pw_and1 (pt_cmpR op_eq (pe_ix ix_str (pv 0) (pe_un un_neg pe_int) (fun _ _ => rfl)) pe_str (nomark _))))) (pe_slice sl_str (pv 0) po_none (po_some (pe_un un_neg pe_int))) (pe_op op_add_str (pv 0) pe_str))), ?_⟩
    obtain ⟨c, hc1, hc2⟩ := last_item z lz.1
    unfold bodyOf at k
    have app : (if (z.cps.toList.getLast? == some 36) = true then cutS z none (some (-1)) else z ++ ("*" : Str)) = z ++ ("*" : Str) → Q (.str (z ++ ("*" : Str))) H := fun e => by rw [e] at k; exact k
    refine ⟨_, rfl, _, rfl, by omega, _, _, rfl, rfl, _, rfl, ?_⟩
    refine ite2 (fun h1 => ?_) (fun h1 => ?_)
    · refine ⟨_, rfl, _, rfl, z, _, c, rfl, rfl, by omega, hc1, rfl, _, rfl, ?_⟩
      by_cases h36 : c = 36
      · have e : (z.cps.toList.getLast? == some 36) = true := by rw [hc2, h36]; rfl
        rw [if_pos e] at k
        refine iteP (decide_eq_true (by rw [h36, lit_dollar])) ⟨_, rfl, _, rfl, _, rfl, z, rfl, by omega, k⟩
      · have e : ¬ (z.cps.toList.getLast? == some 36) = true := by rw [hc2]; simpa using h36
        rw [if_neg e] at k
        refine iteN (fun h => h36 ?_) ⟨_, rfl, _, _, rfl, rfl, ?_, k⟩
        · have := of_decide_eq_true h
          rw [lit_dollar] at this
          exact one_inj.mp (V.str.inj this)
        · show z.length + 1 ≤ sizeLine
          omega
    · -- one sign alone is no dollar
      have h1' : ¬ (1 : Int) < (z.length : Nat) := fun q => h1 (decide_eq_true q)
      have l1 : z.length = 1 := by omega
      have e : ¬ (z.cps.toList.getLast? == some 36) = true := by
        intro q
        have := (isPat_inner hz).1
        unfold innerOf at this
        rw [if_pos q] at this
        have l2 : z.cps.toList.dropLast.length = 0 := by
          rw [List.length_dropLast]
          have : z.cps.toList.length = z.length := rfl
          omega
        rw [List.eq_nil_of_length_eq_zero l2] at this
        cases this
      rw [if_neg e] at k
      refine ⟨_, rfl, _, _, rfl, rfl, ?_, k⟩
      show z.length + 1 ≤ sizeLine
      omega
/-- a row of the table, as a list -/
def rowL (b r : List Nat) (i n : Nat) : List V := (List.range n).map fun k => V.bl (F b r i k)
theorem rowL_at {b r : List Nat} {i n k : Nat} (h : k < n) : atI (rowL b r i n) (k : Int) = some (.bl (F b r i k)) :=
  atI_nat (by unfold rowL; rw [List.getElem?_map, List.getElem?_range h]; rfl)
theorem rowL_len (b r : List Nat) (i n : Nat) : (rowL b r i n).length = n := by unfold rowL; rw [List.length_map, List.length_range]
theorem rowL_succ (b r : List Nat) (i n : Nat) : rowL b r i (n + 1) = rowL b r i n ++ [V.bl (F b r i n)] := by unfold rowL; rw [List.range_succ, List.map_append]; rfl
theorem rowL_zero (b r : List Nat) : ∀ n, [V.bl true] ++ (List.replicate n [V.bl false]).flatten = rowL b r 0 (n + 1)
  | 0 => rfl
  | n + 1 => by
    rw [rowL_succ, ← rowL_zero b r n, List.replicate_succ', List.flatten_append]
    simp [F]
theorem sc_fits : FnScope ["_law_body_here", "_law_route", "_law_row", "_law_sign", "_law_new", "_law_at", "_law_other"] ["_law_body_here", "_law_route"] (defScope s_l_fits) := ⟨rfl, rfl, rfl, by decide +kernel, rfl, by decide +kernel, by decide +kernel⟩
theorem ok_l_fits (T : D K mg) : FnOk P w K mg base CX0 1 T.f_l_fits T.d_l_fits ["_law_body_here", "_law_route"] spFits := by
  refine T.U_l_fits.ok sc_fits (fun vs H Q E h => ?_) (fun cdv A outer s H vs Q E hr h => ?_)
  · obtain ⟨b, r, rfl, _⟩ := h
    rfl
  · obtain ⟨b, r, rfl, hb, hrl, k⟩ := h
    have nd := sc_fits.nd
    have l1000 : 5000 ≤ sizeLine := by decide
    refine ⟨_, pss_cons (ps_set (i := 2) nd rfl (.inl rfl) (pe_op op_cat (pe_lst (pa_cons pe_bl pa_nil)) (pe_op op_rep (pe_lst (pa_cons pe_bl pa_nil)) (pe_callB call_len_str (by rfl) T.len PySem.boot_len (pa_cons (pv 1) pa_nil)))))
      (pss_cons (ps_for PassesOwn.never rfl (pi_str (pv 0)) (pg_name (i := 3) nd rfl (.inl rfl))
        (pss_cons (ps_set (i := 4) nd rfl (.inl rfl) (pe_lst (pa_cons (pe_and (pe_ix ix_list (pv 2) pe_int (fun _ _ => rfl)) (pe_one (pe_cmpR op_eq (pv 3) pe_str (nomark _)))) pa_nil)))
        (pss_cons (ps_for PassesOwn.never rfl (pi_enumS (by rfl) T.enumerate (pa_cons (pv 1) pa_nil)) (pg_tup rfl (pgs_cons (pg_name (i := 5) nd rfl (.inl rfl)) (pgs_cons (pg_name (i := 6) nd rfl (.inl rfl)) pgs_nil)))
          (pss_one (ps_expr (pe_bm PySem.F.plainAttrs_list PySem.F.slot_list_append PySem.F.type_list_append mt_append (pv 4) (pa_cons (pe_ifExp (pt_cmpR op_eq (pv 3) pe_str (nomark _)) (pe_or (pe_ix ix_list (pv 2) (pe_op op_add (pv 5) pe_int) (fun _ _ => rfl)) (pe_one (pe_ix ix_list (pv 4) (pv 5) (fun _ _ => rfl)))) (pe_and (pe_ix ix_list (pv 2) (pv 5) (fun _ _ => rfl)) (pe_one (pe_cmpR op_eq (pv 3) (pv 6) (nomark _))))) pa_nil)))))
        (pss_one (ps_set (i := 2) nd rfl (.inl rfl) (pv 4))))))
      (pss_one (ps_ret (pe_ix ix_list (pv 2) (pe_callB call_len_str (by rfl) T.len PySem.boot_len (pa_cons (pv 1) pa_nil)) (fun _ _ => rfl))))), ?_⟩
    -- the first row
    refine ⟨by show 1 ≤ sizeLine; decide, fun p hp => ⟨by show 1 ≤ sizeLine; decide, fun q hq => ?_⟩⟩
    have s1 : Same H (upd H p (.lst [.bl true])) := same_upd hp
    have s2 : Same (upd H p (.lst [.bl true])) (upd (upd H p (.lst [.bl true])) q (.lst [.bl false])) := same_upd hq
    refine ⟨_, rfl, _, rfl, by omega, q, _, _, rfl, rfl, upd_same, by omega, by omega, ?_, fun u hu2 => ?_⟩
    · show 1 * (r.length : Int).toNat ≤ sizeLine
      omega
    have s3 := same_upd (o := HO.lst ((List.replicate ((r.length : Nat) : Int).toNat [V.bl false]).flatten)) hu2
    refine ⟨p, u, _, _, rfl, rfl, s3 _ _ (s2 _ _ upd_same), upd_same, ?_, fun v hv => ?_⟩
    · show 1 + ((List.replicate ((r.length : Nat) : Int).toNat [V.bl false]).flatten).length ≤ sizeLine
      simp
      omega
    have e0 : [V.bl true] ++ (List.replicate ((r.length : Nat) : Int).toNat [V.bl false]).flatten = rowL (bl b) (bl r) 0 (r.length + 1) := rowL_zero (bl b) (bl r) r.length
    rw [e0]
    have s4 := same_upd (o := HO.lst (rowL (bl b) (bl r) 0 (r.length + 1))) hv
    have s04 := s1.trans (s2.trans (s3.trans s4))
    -- row by row
    refine ⟨_, rfl, b, rfl, for_it (walk_str (z := b)) (fun i σ H2 => Same H H2 ∧ ∃ (a : Addr) (v3 v4 v5 v6 : Option V), σ = [some (.str b), some (.str r), some (.ref a), v3, v4, v5, v6] ∧ H2 a = some (.lst (rowL (bl b) (bl r) i (r.length + 1)))) ⟨s04, v, none, none, none, none, rfl, upd_same⟩ (fun _ _ _ _ _ => trivial) ?_ ?_⟩
    · rintro i x σ H2 H3 hi ⟨sH, a, v3, v4, v5, v6, rfl, ha⟩ ⟨rfl, c, hc, rfl⟩
      have hcl : (bl b)[i]? = some c := (Array.getElem?_toList (xs := b.cps) (i := i)).trans hc
      have est : isSt (bl b) i = decide (c = 42) := by
        unfold isSt
        rw [hcl]
        by_cases h : c = 42
        · rw [h]; rfl
        · rw [decide_eq_false h]; simpa using h
      have edec : decide (V.str ⟨#[c]⟩ = V.str "*") = isSt (bl b) i := by
        rw [est]
        apply decide_eq_decide.mpr
        rw [lit_star]
        exact ⟨fun e => one_inj.mp (V.str.inj e), fun e => by rw [e]⟩
      refine and_pure (F (bl b) (bl r) i 0) (isSt (bl b) i) (fun Q' q' => ⟨_, rfl, a, _, 0, _, rfl, rfl, SqL.of ha, rowL_at (k := 0) (Nat.succ_pos _), q'⟩) (fun _ Q' q' => ⟨_, rfl, rfl, by rw [edec]; exact q'⟩) ?_
      rw [← F_succ_zero]
      refine ⟨by show 1 ≤ sizeLine; decide, fun l hl => ?_⟩
      have sl := same_upd (o := HO.lst [V.bl (F (bl b) (bl r) (i + 1) 0)]) hl
      refine ⟨_, rfl, r, rfl, for_it (walk_tx (x := r) (c := 0)) (fun j σ H4 => Same H3 H4 ∧ H4 l = some (.lst (rowL (bl b) (bl r) (i + 1) (j + 1))) ∧ ∃ w5 w6 : Option V, σ = [some (.str b), some (.str r), some (.ref a), some (.str ⟨#[c]⟩), some (.ref l), w5, w6]) ⟨sl, upd_same, v5, v6, rfl⟩ (fun _ _ _ _ _ => trivial) ?_ ?_⟩
      · rintro j x σ H4 H5 hj ⟨s4, hl4, w5, w6, rfl⟩ ⟨p, d, rfl, hp4, rfl, hd⟩
        have hdl : (bl r)[j]? = some d := (Array.getElem?_toList (xs := r.cps) (i := j)).trans hd
        have s5 := same_upd (o := HO.tup [V.int (0 + (j : Nat)), V.str ⟨#[d]⟩]) hp4
        have ha5 := s5 _ _ (s4 _ _ ha)
        have hl5 := s5 _ _ hl4
        have hjr : j < r.length := hj
        have nla : l ≠ a := fun e => by rw [e, ha] at hl; cases hl
        refine ⟨p, _, rfl, .inl (.inl upd_same), rfl, _, _, rfl, _, _, rfl, rfl, ?_⟩
        have e1 : (0 + ((j : Nat) : Int) + 1) = ((j + 1 : Nat) : Int) := by omega
        have e2 : (0 + ((j : Nat) : Int)) = ((j : Nat) : Int) := by omega
        refine ⟨_, rfl, .inl ⟨rfl, _, SqL.of hl5⟩, ?_⟩
        have fin : ∀ v : V, v = V.bl (F (bl b) (bl r) (i + 1) (j + 1)) → ∃ (l' : Addr) (xs' : List V) (y' : V), V.ref l = .ref l' ∧ [v] = [y'] ∧ upd H4 p (.tup [V.int (0 + (j : Nat)), V.str ⟨#[d]⟩]) l' = some (.lst xs') ∧ xs'.length < sizeLine ∧
            (Same H3 (upd (upd H4 p (.tup [V.int (0 + (j : Nat)), V.str ⟨#[d]⟩])) l' (.lst (xs' ++ [y']))) ∧ (upd (upd H4 p (.tup [V.int (0 + (j : Nat)), V.str ⟨#[d]⟩])) l' (.lst (xs' ++ [y']))) l = some (.lst (rowL (bl b) (bl r) (i + 1) (j + 1 + 1))) ∧
              ∃ w5 w6 : Option V, ([some (.str b), some (.str r), some (.ref a), some (.str ⟨#[c]⟩), some (.ref l), some (.int (0 + (j : Nat))), some (.str ⟨#[d]⟩)] : L2.St) = [some (.str b), some (.str r), some (.ref a), some (.str ⟨#[c]⟩), some (.ref l), w5, w6]) := by
          rintro v rfl
          refine ⟨l, _, _, rfl, rfl, hl5, ?_, fun x o e => ?_, ?_, _, _, rfl⟩
          · rw [rowL_len]
            omega
          · rw [upd_ne (ne_of_none e hl)]
            exact s5 _ _ (s4 _ _ e)
          · rw [upd_same, rowL_succ (bl b) (bl r) (i + 1) (j + 1)]
        refine ⟨_, rfl, rfl, _, rfl, ?_⟩
        dsimp only
        rw [edec]
        cases hst : isSt (bl b) i with
        | true =>
          refine iteT (or_pure (F (bl b) (bl r) i (j + 1)) (F (bl b) (bl r) (i + 1) j) (fun Q' q' => ⟨_, rfl, _, rfl, _, _, rfl, rfl, a, _, _, _, rfl, rfl, SqL.of ha5, (by rw [e1]; exact rowL_at (by omega)), q'⟩) (fun _ Q' q' => ⟨_, rfl, _, rfl, l, _, _, _, rfl, rfl, SqL.of hl5, (by rw [e2]; exact rowL_at (by omega)), q'⟩) ?_)
          exact fin _ (by rw [F_succ, hst]; rfl)
        | false =>
          refine iteF (and_pure (F (bl b) (bl r) i j) ((bl b)[i]? == (bl r)[j]?) (fun Q' q' => ⟨_, rfl, _, rfl, a, _, _, _, rfl, rfl, SqL.of ha5, (by rw [e2]; exact rowL_at (by omega)), q'⟩) (fun _ Q' q' => ⟨_, rfl, _, rfl, rfl, ?_⟩) ?_)
          · have : decide (V.str ⟨#[c]⟩ = V.str ⟨#[d]⟩) = ((bl b)[i]? == (bl r)[j]?) := by
              rw [hcl, hdl, Bool.eq_iff_iff, decide_eq_true_eq, beq_iff_eq]
              exact ⟨fun e => by rw [one_inj.mp (V.str.inj e)], fun e => by rw [Option.some.inj e]⟩
            rw [this]
            exact q'
          · exact fin _ (by rw [F_succ, hst]; rfl)
      · rintro σ H4 ⟨s4, hl4, w5, w6, rfl⟩
        exact ⟨_, rfl, sH.trans s4, l, _, _, _, _, rfl, hl4⟩
    · rintro σ H2 ⟨sH, a, v3, v4, v5, v6, rfl, ha⟩
      have mz : r.length ≤ sizeLine := by omega
      refine ⟨_, rfl, _, rfl, _, rfl, mz, a, _, _, _, rfl, rfl, SqL.of ha, rowL_at (Nat.lt_succ_self _), ?_⟩
      exact k H2 sH
end
end KP

set_option Elab.async false
set_option maxRecDepth 100000
set_option maxHeartbeats 4000000
set_option linter.all false
/-! Ours: the law's patterns and paths. -/
namespace KP
open PySem PySem.Spec PyProof.Rows L2 Gr GxR PM
def Gd (l : List Nat) : Prop := l[0]? = some 47 ∧ ∀ c ∈ l, c = 42 ∨ c ∈ SG
theorem dollar_out : 36 ∉ SG := by decide +kernel
theorem star_out : 42 ∉ SG := by decide +kernel
theorem Gd.last {l : List Nat} (h : Gd l) : ¬ (l.getLast? == some 36) = true := fun e => by
  have hm : 36 ∈ l := List.mem_of_getLast? (by simpa using e)
  rcases h.2 36 hm with q | q
  · cases q
  · exact dollar_out q
theorem Gd.snoc {l : List Nat} {c : Nat} (h : Gd l) (hc : c = 42 ∨ c ∈ SG) : Gd (l ++ [c]) := by
  refine ⟨?_, fun d hd => ?_⟩
  · obtain ⟨lt, e⟩ := List.getElem?_eq_some_iff.mp h.1
    rw [List.getElem?_append_left lt]
    exact h.1
  · rcases List.mem_append.mp hd with q | q
    · exact h.2 d q
    · rw [List.mem_singleton.mp q]
      exact hc
theorem isPat_mk {z : Str} (h1 : 1 ≤ z.length) (h2 : z.length ≤ 12) (hg : Gd (innerOf z)) : isPat z = true := by
  unfold isPat
  rw [decide_eq_true h1, decide_eq_true h2, hg.1]
  have : ((innerOf z).all fun c => c == 42 || decide (c ∈ SG)) = true := List.all_eq_true.mpr fun c hc => by
    rcases hg.2 c hc with e | e
    · rw [e]; rfl
    · rw [decide_eq_true e, Bool.or_true]
  rw [this]
  rfl
theorem Gd.len {z : Str} (h : Gd (bl z)) : 1 ≤ z.length := by
  rw [tx_len]
  exact (List.getElem?_eq_some_iff.mp h.1).1
theorem isPat_good {z : Str} (h : Gd (bl z)) (l : z.length ≤ 12) : isPat z = true := by
  refine isPat_mk h.len l ?_
  unfold innerOf
  rw [if_neg h.last]
  exact h
theorem isPat_dollar {z : Str} (h : Gd (bl z)) (l : z.length ≤ 11) : isPat (z ++ ("$" : Str)) = true := by
  have e : bl (z ++ ("$" : Str)) = bl z ++ [36] := by rw [lit_dollar]; exact tx_app _ _
  have el : (z ++ ("$" : Str)).length = z.length + 1 := by
    rw [tx_len]
    show (bl (z ++ ("$" : Str))).length = _
    rw [e, List.length_append]
    rfl
  refine isPat_mk (by omega) (by omega) ?_
  have : innerOf (z ++ ("$" : Str)) = bl z := by
    unfold innerOf
    show (if (bl (z ++ ("$" : Str))).getLast? == some 36 then (bl (z ++ ("$" : Str))).dropLast else _) = _
    rw [e]
    simp
  rw [this]
  exact h
def spSomePat : Sp := fun vs H Q _ => ∃ (p q : Addr) (st tp : Int) (xs : List V), vs = [.ref p, .ref q, .int st, .int tp] ∧ Well H p ∧ H q = some (.lst xs) ∧ q ≠ p ∧ 0 < xs.length ∧ xs.length ≤ 1000 ∧ (∀ v ∈ xs, OneS v) ∧ 0 ≤ tp ∧ tp ≤ 10 ∧
  ∀ (z : Str) (H' : Hp), But H H' p → Well H' p → isPat z = true → Q (.str z) H'
section
variable {P : Program} {w : World} {K : PySem.W.Frag} {mg : Str → Option Value} {base : Heap}
theorem sc_somepat : FnScope ["_law_well_here", "_law_signs_here", "_law_stars", "_law_top", "_law_text", "_law_left", "_law_turn"] ["_law_well_here", "_law_signs_here", "_law_stars", "_law_top"] (defScope s_l_some_pattern) := ⟨rfl, rfl, rfl, by decide +kernel, rfl, by decide +kernel, by decide +kernel⟩
theorem ok_l_some_pattern (T : D K mg) : FnOk P w K mg base CX0 3 T.f_l_some_pattern T.d_l_some_pattern ["_law_well_here", "_law_signs_here", "_law_stars", "_law_top"] spSomePat := by
  refine T.U_l_some_pattern.ok sc_somepat (fun vs H Q E h => ?_) (fun cdv A outer s H vs Q E hr h => ?_)
  · obtain ⟨p, q, st, tp, xs, rfl, _⟩ := h
    rfl
  · obtain ⟨p, q, st, tp, xs, rfl, hp, hq, nq, hx0, hx1, hx, t0, t1, k⟩ := h
    have nd := sc_somepat.nd
    have hu := hu_of hr
    have mz : 1000 ≤ sizeLine := by decide
    refine ⟨_, pss_cons (ps_par (i := 4) (j := 5) (by rfl) nd rfl rfl (by decide) rfl rfl (pa_cons pe_str (pa_cons (pv 2) pa_nil)) (by rfl))
      (pss_cons (ps_for PassesOwn.never rfl (pi_range1 rfl T.range (pa_cons (pe_call (ok_l_pick T) (hr.mono (by decide)) rfl T.g_l_pick T.U_l_pick.kp T.b_l_pick .nil pass0 (pa_cons (pv 0) (pa_cons (pe_op op_add (pv 3) pe_int) pa_nil))) pa_nil)) (pg_name (i := 6) nd rfl (.inl rfl))
        (pss_one (ps_if (PW.pt (pw_and (pt_cmpR op_gt (pv 5) pe_int (nomark _)) (pw_and1 (pt_cmpR op_eq (pe_call (ok_l_pick T) (hr.mono (by decide)) rfl T.g_l_pick T.U_l_pick.kp T.b_l_pick .nil pass0 (pa_cons (pv 0) (pa_cons pe_int pa_nil))) pe_int (nomark _)))))
          (pss_one (ps_par (i := 4) (j := 5) (by rfl) nd rfl rfl (by decide) rfl rfl (pa_cons (pe_op op_add_str (pv 4) pe_str) (pa_cons (pe_op op_sub (pv 5) pe_int) pa_nil)) (by rfl)))
          (pss_one (ps_set (i := 4) nd rfl (.inl rfl) (pe_op op_add_str (pv 4) (pe_call (ok_l_one T) hr rfl T.g_l_one T.U_l_one.kp T.b_l_one .nil pass0 (pa_cons (pv 0) (pa_cons (pv 1) pa_nil)))))))))
      (pss_one (ps_ret (pe_ifExp (pt_cmpR op_eq (pe_call (ok_l_pick T) (hr.mono (by decide)) rfl T.g_l_pick T.U_l_pick.kp T.b_l_pick .nil pass0 (pa_cons (pv 0) (pa_cons pe_int pa_nil))) pe_int (nomark _)) (pe_op op_add_str (pv 4) pe_str) (pv 4))))), ?_⟩
    have g0 : Gd (bl ("/" : Str)) := by
      rw [lit_slash]
      exact ⟨rfl, fun c hc => .inr (by rw [List.mem_singleton.mp hc]; exact slash_in)⟩
    refine ⟨_, rfl, _, _, rfl, ?_⟩
    refine ⟨_, rfl, _, rfl, _, _, rfl, rfl, p, _, rfl, hp, by omega, by omega, fun n H1 n0 n1 w1 b1 => ?_⟩
    refine ⟨_, rfl, by omega, by omega, for_range (n := _) (fun i σ H2 => But H H2 p ∧ Well H2 p ∧ ∃ (t : Str) (le : Int) (v6 : Option V), σ = [some (.ref p), some (.ref q), some (.int st), some (.int tp), some (.str t), some (.int le), v6] ∧ Gd (bl t) ∧ t.length = i + 1)
      ⟨b1, w1, "/", st, none, rfl, g0, rfl⟩ ?_ ?_⟩
    · rintro i σ H2 hi ⟨b2, w2, t, le, v6, rfl, gt, lt⟩
      have hi10 : i < 10 := by omega
      have app : ∀ (u : Str) (c : Nat), u = ⟨#[c]⟩ → (c = 42 ∨ c ∈ SG) → Gd (bl (t ++ u)) ∧ (t ++ u).length = i + 1 + 1 := fun u c e hc => by
        subst e
        have e1 : bl (t ++ (⟨#[c]⟩ : Str)) = bl t ++ [c] := tx_app _ _
        refine ⟨by rw [e1]; exact gt.snoc hc, ?_⟩
        rw [tx_len]
        show (bl (t ++ (⟨#[c]⟩ : Str))).length = _
        rw [e1, List.length_append]
        show t.length + 1 = _
        omega
      refine ⟨_, rfl, _, _, rfl, rfl, _, rfl, ?_⟩
      refine ite2 (fun _ => ?_) (fun _ => ?_)
      · refine ⟨_, rfl, p, 3, rfl, w2, by decide, by decide, fun m H3 m0 m1 w3 b3 => ⟨rfl, _, rfl, ite2 (fun _ => ?_) (fun _ => ?_)⟩⟩
        · refine ⟨_, rfl, _, _, rfl, rfl, ?_, _, rfl, _, _, rfl, rfl, _, _, rfl, ?_⟩
          · show t.length + 1 ≤ sizeLine
            omega
          · obtain ⟨g2, l2⟩ := app "*" 42 lit_star (.inl rfl)
            exact ⟨b2.trans b3, w3, _, _, _, rfl, g2, l2⟩
        · refine ⟨_, rfl, _, rfl, _, rfl, p, q, xs, rfl, w3, (b2.trans b3) _ _ hq nq, nq, hx0, hx1, fun j v H4 hv w4 b4 => ?_⟩
          obtain ⟨c, hc, rfl⟩ := hx v (List.mem_of_getElem? hv)
          refine ⟨_, _, rfl, rfl, ?_, ?_⟩
          · show t.length + 1 ≤ sizeLine
            omega
          · obtain ⟨g2, l2⟩ := app _ c rfl (.inr hc)
            exact ⟨b2.trans (b3.trans b4), w4, _, _, _, rfl, g2, l2⟩
      · refine ⟨_, rfl, _, rfl, _, rfl, p, q, xs, rfl, w2, b2 _ _ hq nq, nq, hx0, hx1, fun j v H4 hv w4 b4 => ?_⟩
        obtain ⟨c, hc, rfl⟩ := hx v (List.mem_of_getElem? hv)
        refine ⟨_, _, rfl, rfl, ?_, ?_⟩
        · show t.length + 1 ≤ sizeLine
          omega
        · obtain ⟨g2, l2⟩ := app _ c rfl (.inr hc)
          exact ⟨b2.trans b4, w4, _, _, _, rfl, g2, l2⟩
    · rintro σ H2 ⟨b2, w2, t, le, v6, rfl, gt, lt⟩
      have ln : t.length ≤ 11 := by omega
      refine ⟨_, rfl, p, 3, rfl, w2, by decide, by decide, fun m H3 m0 m1 w3 b3 => ⟨rfl, _, rfl, ite2 (fun _ => ?_) (fun _ => ?_)⟩⟩
      · refine ⟨_, rfl, _, _, rfl, rfl, ?_, k _ H3 (b2.trans b3) w3 (isPat_dollar gt ln)⟩
        show t.length + 1 ≤ sizeLine
        omega
      · exact ⟨_, rfl, k _ H3 (b2.trans b3) w3 (isPat_good gt (by omega))⟩
def PP (l : List Nat) : Prop := l[0]? = some 47 ∧ ∀ c ∈ l, c ∈ SG
theorem isPath_of {r : Str} (h : PP (bl r)) : isPath r = true := by
  unfold isPath
  have : (r.cps.toList.all fun c => decide (c ∈ SG)) = true := List.all_eq_true.mpr fun c hc => decide_eq_true (h.2 c hc)
  rw [this]
  show (((bl r)[0]? == some 47) && true) = true
  rw [h.1]
  rfl
theorem PP.snoc {l : List Nat} {c : Nat} (h : PP l) (hc : c ∈ SG) : PP (l ++ [c]) := by
  refine ⟨?_, fun d hd => ?_⟩
  · obtain ⟨lt, e⟩ := List.getElem?_eq_some_iff.mp h.1
    rw [List.getElem?_append_left lt]
    exact h.1
  · rcases List.mem_append.mp hd with q | q
    · exact h.2 d q
    · rw [List.mem_singleton.mp q]
      exact hc
/-- a sign put in the place of a later one -/
theorem PP.put {l : List Nat} {c k : Nat} (h : PP l) (hc : c ∈ SG) (h0 : 0 < k) (h1 : k < l.length) : PP (l.take k ++ [c] ++ l.drop (k + 1)) := by
  refine ⟨?_, fun d hd => ?_⟩
  · rw [List.append_assoc, List.getElem?_append_left (by rw [List.length_take]; omega), List.getElem?_take_of_lt h0]
    exact h.1
  · rcases List.mem_append.mp hd with q | q
    · rcases List.mem_append.mp q with q | q
      · exact h.2 d (List.mem_of_mem_take q)
      · rw [List.mem_singleton.mp q]
        exact hc
    · exact h.2 d (List.mem_of_mem_drop q)
theorem body_signs {z : Str} (h : isPat z = true) : ∀ c ∈ bl (bodyOf z), c = 42 ∨ c ∈ SG := by
  have hi := (isPat_inner h).2
  rw [body_list]
  unfold innerOf at hi
  by_cases q : ((bl z).getLast? == some 36) = true
  · rw [if_pos q] at hi ⊢
    exact hi
  · rw [if_neg q] at hi ⊢
    intro c hc
    rcases List.mem_append.mp hc with e | e
    · exact hi c e
    · exact .inl (List.mem_singleton.mp e)
def spSomePath : Sp := fun vs H Q _ => ∃ (p q : Addr) (z : Str) (xs : List V), vs = [.ref p, .ref q, .str z] ∧ Well H p ∧ H q = some (.lst xs) ∧ q ≠ p ∧ 0 < xs.length ∧ xs.length ≤ 1000 ∧ (∀ v ∈ xs, OneS v) ∧ isPat z = true ∧
  ∀ (r : Str) (H' : Hp), But H H' p → Well H' p → PP (bl r) → r.length ≤ 100 → Q (.str r) H'
section
variable {P : Program} {w : World} {K : PySem.W.Frag} {mg : Str → Option Value} {base : Heap}
theorem five_ints {j : Nat} {v : V} (h : ([.int 0, .int 1, .int 1, .int 2, .int 3] : List V)[j]? = some v) : ∃ n : Int, v = .int n ∧ 0 ≤ n ∧ n ≤ 3 := by
  match j, h with
  | 0, h => exact ⟨0, (Option.some.inj h).symm, by decide, by decide⟩
  | 1, h => exact ⟨1, (Option.some.inj h).symm, by decide, by decide⟩
  | 2, h => exact ⟨1, (Option.some.inj h).symm, by decide, by decide⟩
  | 3, h => exact ⟨2, (Option.some.inj h).symm, by decide, by decide⟩
  | 4, h => exact ⟨3, (Option.some.inj h).symm, by decide, by decide⟩
  | j + 5, h => cases h
theorem sc_somepath : FnScope ["_law_well_here", "_law_signs_here", "_law_shape", "_law_text", "_law_sign", "_law_turn", "_law_at"] ["_law_well_here", "_law_signs_here", "_law_shape"] (defScope s_l_some_path) := ⟨rfl, rfl, rfl, by decide +kernel, rfl, by decide +kernel, by decide +kernel⟩
theorem ok_l_some_path (T : D K mg) : FnOk P w K mg base CX0 3 T.f_l_some_path T.d_l_some_path ["_law_well_here", "_law_signs_here", "_law_shape"] spSomePath := by
  refine T.U_l_some_path.ok sc_somepath (fun vs H Q E h => ?_) (fun cdv A outer s H vs Q E hr h => ?_)
  · obtain ⟨p, q, z, xs, rfl, _⟩ := h
    rfl
  · obtain ⟨p, q, z, xs, rfl, hp, hq, nq, hx0, hx1, hx, hz, k⟩ := h
    have nd := sc_somepath.nd
    have mz : 1000 ≤ sizeLine := by decide
    refine ⟨_, pss_cons (ps_set (i := 3) nd rfl (.inl rfl) pe_str)
      (pss_cons (ps_for PassesOwn.never rfl (pi_str (pe_call (ok_l_body T) (hr.mono (by decide)) rfl T.g_l_body T.U_l_body.kp T.b_l_body .nil pass0 (pa_cons (pv 2) pa_nil))) (pg_name (i := 4) nd rfl (.inl rfl))
        (pss_one (ps_if (pt_cmpR op_eq (pv 4) pe_str (nomark _))
          (pss_one (ps_for PassesOwn.never rfl (pi_range1 rfl T.range (pa_cons (pe_call (ok_l_one T) hr rfl T.g_l_one T.U_l_one.kp T.b_l_one .nil pass0 (pa_cons (pv 0) (pa_cons (pe_lst (pa_cons pe_int (pa_cons pe_int (pa_cons pe_int (pa_cons pe_int (pa_cons pe_int pa_nil)))))) pa_nil))) pa_nil)) (pg_name (i := 5) nd rfl (.inl rfl))
            (pss_one (ps_set (i := 3) nd rfl (.inl rfl) (pe_op op_add_str (pv 3) (pe_call (ok_l_one T) hr rfl T.g_l_one T.U_l_one.kp T.b_l_one .nil pass0 (pa_cons (pv 0) (pa_cons (pv 1) pa_nil))))))))
          (pss_one (ps_set (i := 3) nd rfl (.inl rfl) (pe_op op_add_str (pv 3) (pv 4)))))))
      (pss_cons (ps_set (i := 6) nd rfl (.inl rfl) (pe_call (ok_l_pick T) (hr.mono (by decide)) rfl T.g_l_pick T.U_l_pick.kp T.b_l_pick .nil pass0 (pa_cons (pv 0) (pa_cons (pe_callB call_len_str (by rfl) T.len PySem.boot_len (pa_cons (pv 3) pa_nil)) pa_nil))))
      (pss_cons (ps_if (PW.pt (pw_and (pt_cmpR op_gt (pv 6) pe_int (nomark _)) (pw_and1 (pt_cmpR op_eq (pe_call (ok_l_pick T) (hr.mono (by decide)) rfl T.g_l_pick T.U_l_pick.kp T.b_l_pick .nil pass0 (pa_cons (pv 0) (pa_cons pe_int pa_nil))) pe_int (nomark _)))))
        (pss_one (ps_set (i := 3) nd rfl (.inl rfl) (pe_op op_add_str (pe_op op_add_str (pe_slice sl_str (pv 3) po_none (po_some (pv 6))) (pe_call (ok_l_oneS T) hr rfl T.g_l_one T.U_l_one.kp T.b_l_one .nil pass0 (pa_cons (pv 0) (pa_cons (pe_call0 (ok_l_signs T) (hr.mono (by decide)) (by rfl) T.g_l_signs T.U_l_signs.kp T.b_l_signs .nil pass0) pa_nil)))) (pe_slice sl_str (pv 3) (po_some (pe_op op_add (pv 6) pe_int)) po_none))))
        (pss_nil))
      (pss_one (ps_ret (pv 3)))))), ?_⟩
    have lb := body_len hz
    have app : ∀ (t : Str) (c : Nat), PP (bl t) → c ∈ SG → PP (bl (t ++ (⟨#[c]⟩ : Str))) ∧ (t ++ (⟨#[c]⟩ : Str)).length = t.length + 1 := fun t c ht hc => by
      have e1 : bl (t ++ (⟨#[c]⟩ : Str)) = bl t ++ [c] := tx_app _ _
      refine ⟨by rw [e1]; exact ht.snoc hc, ?_⟩
      rw [tx_len]
      show (bl (t ++ (⟨#[c]⟩ : Str))).length = _
      rw [e1, List.length_append]
      rfl
    refine ⟨_, rfl, z, rfl, hz, bodyOf z, rfl, for_it (walk_str (z := bodyOf z)) (fun i σ H2 => But H H2 p ∧ Well H2 p ∧ ∃ (t : Str) (v4 v5 : Option V), σ = [some (.ref p), some (.ref q), some (.str z), some (.str t), v4, v5, none] ∧ (i = 0 → t = ("" : Str)) ∧ (0 < i → PP (bl t)) ∧ t.length ≤ 3 * i)
      ⟨But.refl _ _, hp, "", none, none, rfl, fun _ => rfl, fun h => absurd h (by decide), Nat.le_refl _⟩ (fun _ _ _ _ _ => trivial) ?_ ?_⟩
    · rintro i x σ H2 H3 hi ⟨b2, w2, t, v4, v5, rfl, t0, tp, tl⟩ ⟨rfl, c, hc, rfl⟩
      have hcl : (bl (bodyOf z))[i]? = some c := (Array.getElem?_toList (xs := (bodyOf z).cps) (i := i)).trans hc
      have hi13 : i < 13 := by
        have : (bodyOf z).cps.size = (bodyOf z).length := rfl
        omega
      refine ⟨_, rfl, rfl, _, rfl, ite2 (fun h => ?_) (fun h => ?_)⟩
      · -- a star
        have h42 : c = 42 := by
          have := of_decide_eq_true h
          rw [lit_star] at this
          exact one_inj.mp (V.str.inj this)
        have hi0 : 0 < i := by
          rcases Nat.eq_zero_or_pos i with e | e
          · rw [e, body_first hz] at hcl
            rw [h42] at hcl
            cases hcl
          · exact e
        refine ⟨_, rfl, by show 5 ≤ sizeLine; decide, fun l hl => ?_⟩
        have sl := same_upd (o := HO.lst [V.int 0, V.int 1, V.int 1, V.int 2, V.int 3]) hl
        have wl : Well (upd H3 l (.lst [V.int 0, V.int 1, V.int 1, V.int 2, V.int 3])) p := let ⟨a, b, c, e⟩ := w2; ⟨a, b, c, sl _ _ e⟩
        have nlp : l ≠ p := fun e => by
          obtain ⟨a, b, c, e2⟩ := w2
          rw [e, e2] at hl
          cases hl
        refine ⟨p, l, _, rfl, wl, upd_same, nlp, by decide, by decide, fun j v H4 hv w4 b4 => ?_⟩
        obtain ⟨n, rfl, n0, n3⟩ := five_ints hv
        have b04 : But H H4 p := b2.trans ((But.mk' sl).trans b4)
        refine ⟨n, rfl, by omega, by omega, for_range (n := _) (fun m σ H5 => But H H5 p ∧ Well H5 p ∧ ∃ (u : Str) (v5 : Option V), σ = [some (.ref p), some (.ref q), some (.str z), some (.str u), some (.str ⟨#[c]⟩), v5, none] ∧ PP (bl u) ∧ u.length = t.length + m)
          ⟨b04, w4, t, v5, rfl, tp hi0, rfl⟩ ?_ ?_⟩
        · rintro m σ H5 hm ⟨b5, w5, u, v5, rfl, pu, lu⟩
          have hm3 : m < 3 := by omega
          refine ⟨_, rfl, _, rfl, _, rfl, p, q, xs, rfl, w5, b5 _ _ hq nq, nq, hx0, hx1, fun j v H6 hv w6 b6 => ?_⟩
          obtain ⟨d, hd, rfl⟩ := hx v (List.mem_of_getElem? hv)
          obtain ⟨p2, l2⟩ := app u d pu hd
          refine ⟨_, _, rfl, rfl, ?_, b5.trans b6, w6, _, _, rfl, p2, by omega⟩
          show u.length + 1 ≤ sizeLine
          omega
        · rintro σ H5 ⟨b5, w5, u, v5, rfl, pu, lu⟩
          exact ⟨b5, w5, u, _, _, rfl, fun e => absurd e (Nat.succ_ne_zero i), fun _ => pu, by omega⟩
      · have h42 : c ≠ 42 := fun e => h (decide_eq_true (by rw [e, lit_star]))
        have hSG : c ∈ SG := (body_signs hz c (List.mem_of_getElem? hcl)).resolve_left h42
        refine ⟨_, rfl, _, rfl, _, _, rfl, rfl, ?_, b2, w2, _, _, _, rfl, fun e => absurd e (Nat.succ_ne_zero i), fun _ => ?_, ?_⟩
        · show t.length + 1 ≤ sizeLine
          omega
        · rcases Nat.eq_zero_or_pos i with e | e
          · rw [t0 e]
            rw [e, body_first hz] at hcl
            have : c = 47 := (Option.some.inj hcl).symm
            subst this
            refine ⟨?_, fun d hd => ?_⟩
            · decide +kernel
            · have e3 : bl (("" : Str) ++ (⟨#[47]⟩ : Str)) = [47] := by decide +kernel
              rw [e3] at hd
              rw [List.mem_singleton.mp hd]
              exact slash_in
          · exact (app t c (tp e) hSG).1
        · have : (t ++ (⟨#[c]⟩ : Str)).length = t.length + 1 := by
            rw [tx_len, tx_app, List.length_append]
            rfl
          omega
    · rintro σ H2 ⟨b2, w2, t, v4, v5, rfl, t0, tp, tl⟩
      have hbz : (bodyOf z).cps.size = (bodyOf z).length := rfl
      have hpos : 0 < (bodyOf z).length := (List.getElem?_eq_some_iff.mp (body_first hz)).1
      have pt : PP (bl t) := tp (by omega)
      have ltp : 0 < t.length := (List.getElem?_eq_some_iff.mp pt.1).1
      have lt39 : t.length ≤ 39 := by omega
      refine ⟨_, rfl, _, rfl, _, rfl, by omega, p, _, rfl, w2, by omega, by omega, fun n H3 n0 n1 w3 b3 => ?_⟩
      obtain ⟨m, rfl⟩ := Int.eq_ofNat_of_zero_le n0
      have hm : m < t.length := by omega
      refine ⟨_, rfl, _, _, rfl, rfl, _, rfl, ite2 (fun h => ?_) (fun h => ?_)⟩
      · have m0 : 0 < m := by
          have := of_decide_eq_true h
          omega
        refine ⟨_, rfl, p, 3, rfl, w3, by decide, by decide, fun y H4 y0 y1 w4 b4 => ⟨rfl, _, rfl, ite2 (fun _ => ?_) (fun _ => ?_)⟩⟩
        · refine ⟨_, rfl, _, rfl, _, rfl, t, rfl, by omega, _, rfl, ⟨rfl, p, SGs, rfl, w4, SGs_pos, SGs_len, fun c H5 hc w5 b5 => ?_⟩⟩
          have e1 : bl (cutS t none (some ((m : Nat) : Int))) = (bl t).take m := cut_to t m
          have e2 : bl (cutS t (some (((m : Nat) : Int) + 1)) none) = (bl t).drop (m + 1) := cut_from t (m + 1)
          have l1 := cutS_length t none (some ((m : Nat) : Int))
          have l2 := cutS_length t (some (((m : Nat) : Int) + 1)) none
          have e3 : bl (cutS t none (some ((m : Nat) : Int)) ++ (⟨#[c]⟩ : Str)) = (bl t).take m ++ [c] := by rw [← e1]; exact tx_app _ _
          have e4 : bl (cutS t none (some ((m : Nat) : Int)) ++ (⟨#[c]⟩ : Str) ++ cutS t (some (((m : Nat) : Int) + 1)) none) = (bl t).take m ++ [c] ++ (bl t).drop (m + 1) := by rw [← e2, ← e3]; exact tx_app _ _
          have l4 : (cutS t none (some ((m : Nat) : Int)) ++ (⟨#[c]⟩ : Str)).length ≤ 40 := by
            rw [PySem.Str.length_append]
            show _ + 1 ≤ 40
            omega
          refine ⟨_, _, rfl, rfl, ?_, _, rfl, _, rfl, _, _, rfl, rfl, _, rfl, t, rfl, by omega, _, _, rfl, rfl, ?_, ?_⟩
          · show _ + 1 ≤ sizeLine
            omega
          · omega
          · refine ⟨_, rfl, k _ H5 (b2.trans (b3.trans (b4.trans b5))) w5 ?_ ?_⟩
            · rw [e4]
              exact pt.put hc m0 hm
            · rw [PySem.Str.length_append]
              omega
        · exact ⟨_, rfl, k _ H4 (b2.trans (b3.trans b4)) w4 pt (by omega)⟩
      · exact ⟨_, rfl, k _ H3 (b2.trans b3) w3 pt (by omega)⟩
end
end
end KP

set_option Elab.async false
set_option maxRecDepth 100000
set_option maxHeartbeats 4000000
set_option linter.all false
/-! Ours: places as a number, and one sign on. -/
namespace KP
open PySem PySem.Spec PyProof.Rows L2 Gr GxR PM
/-- the number of the places in a list -/
def Bits (l : List Nat) (y : Nat) : Prop := ∀ j, y.testBit j = decide (j ∈ l)
theorem bits_snoc {l : List Nat} {y i : Nat} (h : Bits l y) : Bits (l ++ [i]) (y ||| 2 ^ i) := fun j => by
  rw [Nat.testBit_or, h j, testBit_pow]
  by_cases e : i = j
  · subst e
    simp
  · have e' : ¬ j = i := fun q => e q.symm
    simp [e, e']
theorem bits_nil : Bits [] 0 := fun j => by simp
theorem bits_plcs {b r : List Nat} {y : Nat} (h : Bits (plcs b r) y) : Pl b r r.length y := fun j => by
  rw [h j]
  unfold plcs
  by_cases hj : j ≤ b.length
  · rw [decide_eq_true hj, Bool.true_and]
    rw [Bool.eq_iff_iff, decide_eq_true_eq, List.mem_filter, List.mem_range]
    exact ⟨fun q => q.2, fun q => ⟨by omega, q⟩⟩
  · rw [decide_eq_false hj, Bool.false_and]
    refine decide_eq_false fun q => ?_
    have := List.mem_range.mp (List.mem_filter.mp q).1
    omega
theorem plcs_le {b r : List Nat} : ∀ i ∈ plcs b r, i ≤ b.length := fun i hi => by
  have := List.mem_range.mp (List.mem_filter.mp hi).1
  omega
theorem shl_one (i : Nat) : ((1 : Int) * 2 ^ ((0 : Int) + ((i : Nat) : Int)).toNat) = ((2 ^ i : Nat) : Int) := by
  have e : ((0 : Int) + ((i : Nat) : Int)).toNat = i := by omega
  rw [e, Int.one_mul, Int.natCast_pow]
  rfl
/-- rows: one row of places, as a tuple of a tuple -/
def spStand {K : PySem.W.Frag} {mg : Str → Option Value} (T : D K mg) : Sp := fun vs H Q _ => ∃ (m p q : Addr) (b : Str) (l : List Nat), vs = [.ref m, .ref p] ∧ Mach T H m b ∧ H p = some (.tup [.ref q]) ∧ H q = some (.tup (l.map fun i => V.int (i : Nat))) ∧ (∀ i ∈ l, i ≤ 60) ∧
  ∀ (y : Nat) (H' : Hp), Same H H' → Bits l y → Q (.int (y : Nat)) H'
section
variable {P : Program} {w : World} {K : PySem.W.Frag} {mg : Str → Option Value} {base : Heap}
theorem sc_stand : FnScope ["self", "rows", "standing", "first", "row", "place"] ["self", "rows"] (defScope s_standing_of) := ⟨rfl, rfl, rfl, by decide +kernel, rfl, by decide +kernel, by decide +kernel⟩
theorem ok_stand (T : D K mg) : FnOk P w K mg base CX0 1 T.f_standing_of T.d_standing_of ["self", "rows"] (spStand T) := by
  refine T.U_standing_of.ok sc_stand (fun vs H Q E h => ?_) (fun cdv A outer s H vs Q E hr h => ?_)
  · obtain ⟨m, p, q, b, l, rfl, _⟩ := h
    rfl
  · obtain ⟨m, p, q, b, l, rfl, M, hp, hq, hl, k⟩ := h
    obtain ⟨dx, lb, ls, md, fs, kvs, hm, ⟨l2, h2⟩, ⟨l3, h3⟩, l4, l5, ⟨l6, h6, kv⟩, l7⟩ := id M
    have nd := sc_stand.nd
    refine ⟨_, pss_cons (ps_set (i := 2) nd rfl (.inl rfl) pe_int)
      (pss_cons (ps_for PassesOwn.never rfl (pi_zipM (by rfl) T.zip (pa_cons (pe_fld (pv 0) rfl) (pa_cons (pv 1) pa_nil))) (pg_tup rfl (pgs_cons (pg_name (i := 3) nd rfl (.inl rfl)) (pgs_cons (pg_name (i := 4) nd rfl (.inl rfl)) pgs_nil)))
        (pss_one (ps_for PassesOwn.never rfl (pi_tup (pv 4)) (pg_name (i := 5) nd rfl (.inl rfl))
          (pss_one (ps_aug (i := 2) nd rfl (.inl rfl) (pe_op op_shl pe_int (pe_op op_add (pv 3) (pv 5))) in_or)))))
      (pss_one (ps_ret (pv 2)))), ?_⟩
    refine ⟨_, rfl, m, _, dx, fs, _, rfl, hm, T.cl_Machine, T.n_starts, l3, _, rfl, ls, p, [.int 0], [.ref q], rfl, SqL.of h3, SqT.of hp, ?_⟩
    refine for_it (walk_zipM (n := 1) rfl rfl) (fun i σ H2 => Same H H2 ∧ ∃ (y : Nat) (v3 v4 v5 : Option V), σ = [some (.ref m), some (.ref p), some (.int (y : Nat)), v3, v4, v5] ∧ (i = 0 → y = 0) ∧ (i = 1 → Bits l y))
      ⟨.refl _, 0, none, none, none, rfl, fun _ => rfl, fun e => nomatch e⟩ (fun i σ H2 _ q2 => ⟨SqL.of (q2.1 _ _ h3), SqT.of (q2.1 _ _ hp)⟩) ?_ ?_
    · rintro i x σ H2 H3 hi ⟨s2, y, v3, v4, v5, rfl, y0, _⟩ ⟨t, x1, x2, rfl, ht, rfl, e1, e2⟩
      obtain rfl : i = 0 := by omega
      obtain rfl := y0 rfl
      obtain rfl : V.int 0 = x1 := Option.some.inj e1
      obtain rfl : V.ref q = x2 := Option.some.inj e2
      have s3 : Same H (upd H2 t (.tup [.int 0, .ref q])) := s2.trans (same_upd ht)
      refine ⟨t, _, rfl, .inl (.inl upd_same), rfl, _, _, rfl, _, _, rfl, rfl, _, rfl, q, rfl, ⟨_, SqT.of (s3 _ _ hq)⟩, ?_⟩
      refine for_tup (K := K) (a := q) (xs := l.map fun i => V.int (i : Nat)) (fun j σ H4 => Same H H4 ∧ ∃ (y : Nat) (v5 : Option V), σ = [some (.ref m), some (.ref p), some (.int (y : Nat)), some (.int 0), some (.ref q), v5] ∧ Bits (l.take j) y)
        ⟨s3, 0, v5, rfl, by rw [List.take_zero]; exact bits_nil⟩ (fun j σ H4 _ q4 => SqT.of (q4.1 _ _ hq)) ?_ ?_
      · rintro j x σ H4 hj ⟨s4, y, v5, rfl, hy⟩
        rw [List.getElem?_map] at hj
        cases hlj : l[j]? with
        | none => rw [hlj] at hj; cases hj
        | some i =>
          rw [hlj] at hj
          obtain rfl : V.int (i : Nat) = x := Option.some.inj hj
          have hi60 := hl i (List.mem_of_getElem? hlj)
          refine ⟨_, rfl, _, rfl, _, rfl, _, _, rfl, rfl, _, _, rfl, rfl, ?_, ?_⟩
          · exact ⟨by omega, by omega, by decide⟩
          · refine ⟨_, _, rfl, rfl, ?_⟩
            rw [shl_one, nor]
            refine ⟨s4, _, _, rfl, ?_⟩
            rw [List.take_add_one, hlj]
            exact bits_snoc hy
      · rintro σ H4 ⟨s4, y, v5, rfl, hy⟩
        rw [List.length_map, List.take_length] at hy
        exact ⟨s4, y, _, _, _, rfl, fun e => (nomatch e), fun _ => hy⟩
    · rintro σ H2 ⟨s2, y, v3, v4, v5, rfl, _, hy⟩
      exact ⟨_, rfl, k y H2 s2 (hy rfl)⟩
/-- the places behind one sign more -/
theorem pl_next {b r : List Nat} {c s y : Nat} (h : Pl b r r.length s) (e : ∀ i, y.testBit i = clo ((starsOf b b.length).testBit ·) ((stepped b b.length s c).testBit ·) i) : Pl b (r ++ [c]) (r ++ [c]).length y := fun i => by
  have h' : Pl b (r ++ [c]) r.length s := fun j => by
    rw [h j, F_local j r.length fun k hk => (List.getElem?_append_left hk).symm]
  rw [e i, clo_step h' (by simp), List.length_append, List.length_singleton]
def spNext {K : PySem.W.Frag} {mg : Str → Option Value} (T : D K mg) : Sp := fun vs H Q _ => ∃ (z : Str) (q : Addr) (r : List Nat) (c : Nat), vs = [.str z, .ref q, .str ⟨#[c]⟩] ∧ isPat z = true ∧ H q = some (.tup ((plcs (bl (bodyOf z)) r).map fun i => V.int (i : Nat))) ∧ TT2 T H ∧
  ∀ (p : Addr) (H' : Hp), Up T H H' → H' p = some (.tup ((plcs (bl (bodyOf z)) (r ++ [c])).map fun i => V.int (i : Nat))) → Q (.ref p) H'
theorem sc_next : FnScope ["pattern", "places", "sign", "machine"] ["pattern", "places", "sign"] (defScope s_next_places) := ⟨rfl, rfl, rfl, by decide +kernel, rfl, by decide +kernel, by decide +kernel⟩
theorem ok_next (T : D K mg) (TB : Tabs base T) : FnOk P w K mg base CX0 5 T.f_next_places T.d_next_places ["pattern", "places", "sign"] (spNext T) := by
  refine T.U_next_places.ok sc_next (fun vs H Q E h => ?_) (fun cdv A outer s H vs Q E hr h => ?_)
  · obtain ⟨z, q, r, c, rfl, _⟩ := h
    rfl
  · obtain ⟨z, q0, r, c, rfl, hz, hq0, hT, k⟩ := h
    have nd := sc_next.nd
    refine ⟨_, pss_cons (ps_set (i := 3) nd rfl (.inl rfl) (pe_make T.mk_Machine (ok_init T) (hr.mono (by decide)) rfl T.g_Machine T.b_init .nil pass0 (pa_cons (pe_lst (pa_cons (pe_call (ok_body_of T TB) hr rfl T.g_body_of T.U_body_of.kp T.b_body_of .nil pass0 (pa_cons (pv 0) pa_nil)) pa_nil)) pa_nil)))
      (pss_one (ps_ret (pe_meth (pv 3) T.cl_Machine T.M_places_of (ok_places_of T) (hr.mono (by decide)) T.b_places_of .nil pass0 (pa_cons (pe_meth (pv 3) T.cl_Machine T.M_step (ok_step T) (hr.mono (by decide)) T.b_step .nil pass0 (pa_cons (pe_meth (pv 3) T.cl_Machine T.M_standing_of (ok_stand T) (hr.mono (by decide)) T.b_standing_of .nil pass0 (pa_cons (pe_tup (pa_cons (pv 1) pa_nil)) pa_nil)) (pa_cons (pv 2) pa_nil))) (pa_cons pe_int pa_nil))))), ?_⟩
    have lb := body_len hz
    refine ⟨_, rfl, z, rfl, hz, hT.2, fun H1 t1 => ⟨by show 1 ≤ sizeLine; decide, fun q hq m dx hm hdx ne => ?_⟩⟩
    have u1 := Up.pat hT t1
    have hqm : q ≠ m := fun e => by rw [← e, upd_same] at hm; cases hm
    have hqd : q ≠ dx := fun e => by rw [← e, upd_same] at hdx; cases hdx
    have s2 : Same H1 (upd H1 q (.lst [.str (bodyOf z)])) := same_upd hq
    have s3 : Same (upd H1 q (.lst [.str (bodyOf z)])) (upd (upd (upd H1 q (.lst [.str (bodyOf z)])) dx (.own m)) m (.ins T.C_Machine dx [])) := fun b o e => by
      rw [upd_ne (ne_of_none e hm), upd_ne (ne_of_none e hdx)]
      exact e
    refine ⟨m, q, dx, bodyOf z, rfl, upd_same, s3 _ _ upd_same, by omega, fun H4 M k4 => ⟨rfl, ?_⟩⟩
    have s4 : Same H1 H4 := fun x o e => by
      refine k4 x o (s3 x o (s2 x o e)) fun z => ?_
      rw [z] at e
      have := s2 _ _ e
      rw [hm] at this
      cases this
    have u4 : Up T H H4 := u1.trans (Up.same u1.1 s4)
    have hq4 : H4 q0 = some (.tup ((plcs (bl (bodyOf z)) r).map fun i => V.int (i : Nat))) := u4.stay hT _ _ hq0 (fun _ e => nomatch e)
    obtain ⟨dx5, lb5, ls5, md5, fs5, kvs5, hm5, _, _, _, _, _, l7⟩ := id M
    refine ⟨_, rfl, m, dx5, fs5, rfl, hm5, l7 _ (by decide +kernel), _, rfl, m, dx5, fs5, rfl, hm5, l7 _ (by decide +kernel), _, rfl, m, dx5, fs5, rfl, hm5, l7 _ (by decide +kernel), _, rfl, by show 1 ≤ sizeLine; decide, fun p hp => ?_⟩
    have s5 := same_upd (o := HO.tup [V.ref q0]) hp
    refine ⟨m, p, q0, bodyOf z, plcs (bl (bodyOf z)) r, rfl, M.stay (.same s5), upd_same, s5 _ _ hq4, fun i hi => ?_, fun y H6 s6 hy => ?_⟩
    · have := plcs_le i hi
      have e : (bl (bodyOf z)).length = (bodyOf z).length := rfl
      omega
    · have hy1 := bits_plcs hy
      refine ⟨_, rfl, m, bodyOf z, y, c, rfl, M.stay (.same (s5.trans s6)), by omega, pl_lt hy1, fun y2 e2 => ?_⟩
      refine ⟨m, bodyOf z, y2, rfl, M.stay (.same (s5.trans s6)), by omega, fun p H7 s7 hp7 e7 => ?_⟩
      have u7 := u4.trans (Up.same u4.1 (s5.trans (s6.trans s7)))
      have hy' : Pl (bl (bodyOf z)) (r ++ [c]) (r ++ [c]).length y2 := pl_next hy1 e2
      have e8 : (List.range ((bodyOf z).length + 1)).filter (y2.testBit ·) = plcs (bl (bodyOf z)) (r ++ [c]) := plcs_of hy'
      rw [e8] at e7
      exact k p H7 u7 e7
end
end KP

set_option Elab.async false
set_option maxRecDepth 100000
set_option maxHeartbeats 4000000
set_option linter.all false
/-! Ours: the places that are due, by the law's table. -/
namespace KP
open PySem PySem.Spec PyProof.Rows L2 Gr GxR PM
def spDue : Sp := fun vs H Q _ => ∃ b r : Str, vs = [.str b, .str r] ∧ b.length ≤ 60 ∧ r.length ≤ 1000 ∧ ∀ (p : Addr) (H' : Hp), Same H H' → H p = none → H' p = some (.tup ((plcs (bl b) (bl r)).map fun i => V.int (i : Nat))) → Q (.ref p) H'
theorem filt_succ {α : Type} (g : Nat → Bool) (f : Nat → α) (i : Nat) : ((List.range (i + 1)).filter g).map f = ((List.range i).filter g).map f ++ (if g i then [f i] else []) := by
  rw [List.range_succ, List.filter_append, List.map_append]
  cases ht : g i <;> simp [ht]
theorem met_take {b r : List Nat} {k : Nat} (h : k ≤ b.length) : met (b.take k) r = F b r k r.length := by
  unfold met
  rw [List.length_take, Nat.min_eq_left h]
  exact F_body k _ fun j hj => by rw [List.getElem?_take_of_lt hj]
section
variable {P : Program} {w : World} {K : PySem.W.Frag} {mg : Str → Option Value} {base : Heap}
theorem sc_due : FnScope ["_law_body_here", "_law_route", "_law_k"] ["_law_body_here", "_law_route"] (defScope s_l_due_places) := ⟨rfl, rfl, rfl, by decide +kernel, rfl, by decide +kernel, by decide +kernel⟩
theorem ok_due (T : D K mg) : FnOk P w K mg base CX0 2 T.f_l_due_places T.d_l_due_places ["_law_body_here", "_law_route"] spDue := by
  refine T.U_l_due_places.ok sc_due (fun vs H Q E h => ?_) (fun cdv A outer s H vs Q E hr h => ?_)
  · obtain ⟨b, r, rfl, _⟩ := h
    rfl
  · obtain ⟨b, r, rfl, hb, hrl, k⟩ := h
    have nd := sc_due.nd
    have hz : b.length ≤ sizeLine := Nat.le_trans hb (by decide)
    refine ⟨_, pss_one (ps_ret (pe_callTy call_tuple_of (by rfl) T.tuple (by decide +kernel) (pa_cons (pe_lc (own := [("_law_k", 2)]) (g := gName 2) rfl nd (pi_range1 rfl T.range (pa_cons (pe_op op_add (pe_callB call_len_str (by rfl) T.len PySem.boot_len (pa_cons (pv 0) pa_nil)) pe_int) pa_nil)) (blkOk_by (N := ["_law_body_here", "_law_route", "_law_k"]) (sc := defScope s_l_due_places) (by decide +kernel)) (fun _ _ _ _ _ => pg_name (i := 2) nd rfl (.inl rfl)) (fun _ _ _ _ _ => (pts_one (pt_truthB (pe_call (ok_l_fits T) hr rfl T.g_l_fits T.U_l_fits.kp T.b_l_fits .nil pass0 (pa_cons (pe_slice sl_str (pv 0) po_none (po_some (pv 2))) (pa_cons (pv 1) pa_nil))) (by intro _; rfl)))) (fun _ _ _ _ _ => pv 2)) pa_nil))), ?_⟩
    refine ⟨_, rfl, _, rfl, hz, _, _, rfl, rfl, _, rfl, by omega, by omega, fun D hD => lc_range (lo := 0) (n := _) (fun i H2 => Same H H2 ∧ H2 D = some (.lst (((List.range i).filter fun k => F (bl b) (bl r) k (bl r).length).map fun i => V.int (i : Nat)))) ⟨same_upd hD, upd_same⟩ ?_ ?_⟩
    · rintro i H2 hi ⟨s2, hDs⟩
      have hi' : i < b.length + 1 := by omega
      have e0 : (0 : Int) + ((i : Nat) : Int) = ((i : Nat) : Int) := by omega
      have e1 : bl (cutS b none (some ((0 : Int) + ((i : Nat) : Int)))) = (bl b).take i := by rw [e0]; exact cut_to b i
      have l1 := cutS_length b none (some ((0 : Int) + ((i : Nat) : Int)))
      refine ⟨rfl, ?_⟩
      refine ⟨_, rfl, _, rfl, _, rfl, b, rfl, by omega, _, rfl, _, r, rfl, by omega, hrl, fun H3 s3 => ⟨_, rfl, ?_⟩⟩
      rw [e1, met_take (show i ≤ (bl b).length by have : (bl b).length = b.length := rfl; omega)]
      have s23 := s2.trans s3
      have hDs3 := s3 _ _ hDs
      have er := filt_succ (fun k => F (bl b) (bl r) k (bl r).length) (fun i => V.int (i : Nat)) i
      cases ht : F (bl b) (bl r) i (bl r).length with
      | true =>
        refine iteT ⟨_, rfl, _, hDs3, ?_, same_into hD s23, ?_⟩
        · rw [List.length_map]
          have h1 := List.length_filter_le (fun k => F (bl b) (bl r) k (bl r).length) (List.range i)
          rw [List.length_range] at h1
          exact small1000 (by omega)
        · rw [upd_same, er, e0, if_pos ht]
      | false =>
        refine iteF ⟨s23, ?_⟩
        rw [er, if_neg (by rw [ht]; exact Bool.false_ne_true), List.append_nil]
        exact hDs3
    · rintro H2 ⟨s2, hDs⟩
      refine ⟨D, _, rfl, .inl ⟨SqL.of hDs, fun l hl => ?_⟩⟩
      have en : ((b.length : Int) + 1).toNat = (bl b).length + 1 := by
        have : (bl b).length = b.length := rfl
        omega
      rw [en]
      exact k l _ (same_into (s2.free hl) s2) (s2.free hl) upd_same
end
end KP

set_option Elab.async false
set_option maxRecDepth 100000
set_option maxHeartbeats 4000000
set_option linter.all false
/-! Ours: facts for the law's walk. -/
namespace KP
open PySem PySem.Spec PyProof.Rows L2 Gr GxR PM
/-! a sign that the body doesn't hold -/
theorem F_far {b r : List Nat} {c c' : Nat} (hc : c ∉ b) (hc' : c' ∉ b) : ∀ i, F b (r ++ [c]) i (r.length + 1) = F b (r ++ [c']) i (r.length + 1)
  | 0 => rfl
  | i + 1 => by
    have no : ∀ d : Nat, d ∉ b → (b[i]? == (r ++ [d])[r.length]?) = false := fun d hd => by
      have e : (r ++ [d])[r.length]? = some d := by simp
      rw [e]
      cases q : b[i]? with
      | none => rfl
      | some x =>
        have : x ≠ d := fun e => hd (e ▸ List.mem_of_getElem? q)
        simpa using this
    rw [F_succ, F_succ, no c hc, no c' hc', Bool.and_false, Bool.and_false, F_far hc hc' i]
    have l : ∀ d : Nat, F b (r ++ [d]) (i + 1) r.length = F b r (i + 1) r.length := fun d => (F_local _ _ fun j hj => (List.getElem?_append_left hj).symm).symm
    rw [l c, l c']
theorem plcs_far {b r : List Nat} {c c' : Nat} (hc : c ∉ b) (hc' : c' ∉ b) : plcs b (r ++ [c]) = plcs b (r ++ [c']) := by
  unfold plcs
  refine List.filter_congr fun i _ => ?_
  rw [List.length_append, List.length_append, List.length_singleton, List.length_singleton, F_far hc hc' i]
/-! the signs that are left -/
theorem left_over : ∀ (m l : List Nat), l.Nodup → l.length ≤ (l.filter fun c => !decide (c ∈ m)).length + m.length
  | [], l, _ => by
    have : (l.filter fun c => !decide (c ∈ ([] : List Nat))) = l := List.filter_eq_self.mpr fun c _ => by simp
    rw [this]
    exact Nat.le_refl _
  | d :: m, l, h => by
    have ih := left_over m (l.erase d) (h.erase d)
    have e : (l.filter fun c => !decide (c ∈ d :: m)) = (l.erase d).filter fun c => !decide (c ∈ m) := by
      rw [List.Nodup.erase_eq_filter h, List.filter_filter]
      refine List.filter_congr fun c _ => ?_
      by_cases h1 : c = d
      · simp [h1]
      · by_cases h2 : c ∈ m
        · simp [h2]
        · simp [h1, h2]
    rw [e, List.length_cons]
    have l1 : l.length ≤ (l.erase d).length + 1 := by
      rw [List.length_erase]
      split <;> omega
    omega
/-- the signs that a pattern doesn't write -/
def oth (z : Str) : List Nat := SG.filter fun c => !decide (c ∈ bl z)
theorem oth_pos {z : Str} (h : z.length ≤ 12) : 0 < (oth z).length := by
  have h1 := left_over (bl z) SG (by decide +kernel)
  have h2 : SG.length = 40 := by decide +kernel
  have h3 : (bl z).length = z.length := rfl
  unfold oth
  omega
theorem oth_le {z : Str} : (oth z).length ≤ 40 := by
  have h1 := List.length_filter_le (fun c => !decide (c ∈ bl z)) SG
  have h2 : SG.length = 40 := by decide +kernel
  unfold oth
  omega
theorem oth_out {z : Str} {c : Nat} (h : c ∈ oth z) : c ∉ bl (bodyOf z) := by
  unfold oth at h
  rw [List.mem_filter] at h
  obtain ⟨h1, h2⟩ := h
  have h3 : c ∉ bl z := by simpa using h2
  have h4 : c ≠ 42 := fun e => star_out (e ▸ h1)
  rw [body_list]
  split
  · exact fun q => h3 (List.dropLast_subset _ q)
  · intro q
    rcases List.mem_append.mp q with q | q
    · exact h3 q
    · exact h4 (List.mem_singleton.mp q)
/-! a row of places, as data -/
def tupD (l : List Nat) : PyData := .tuple (l.map fun i => .int (i : Nat))
def tupV (l : List Nat) : List V := l.map fun i => V.int (i : Nat)
theorem dqAll_tup {K : PySem.W.Frag} {H : Hp} : ∀ l : List Nat, DqAll K H (tupV l) (l.map fun i => PyData.int (i : Nat))
  | [] => .nil
  | i :: l => .cons (.int _) (dqAll_tup l)
theorem dq_tup {K : PySem.W.Frag} {H : Hp} {a : Addr} {l : List Nat} (e : H a = some (.tup (tupV l))) : Dq K H (.ref a) (tupD l) := .tup (SqT.of e) (dqAll_tup l)
theorem showAll_tup : ∀ {l : List Nat}, (∀ i ∈ l, i < 14) → PyData.showableAll (l.map fun i => PyData.int (i : Nat)) = true
  | [], _ => rfl
  | i :: l, h => by
    have := showAll_tup (l := l) fun j hj => h j (List.mem_cons_of_mem _ hj)
    have h1 := h i List.mem_cons_self
    have h2 := Nat.log2_le_self i
    simp [PyData.showableAll, PyData.showable, this]
    omega
theorem depthAll_tup : ∀ l : List Nat, PyData.depthAll (l.map fun i => PyData.int (i : Nat)) ≤ 2
  | [] => by simp [PyData.depthAll]
  | i :: l => by
    have := depthAll_tup l
    simp only [List.map_cons, PyData.depthAll, PyData.depth]
    omega
theorem small_ints : ∀ i < 14, (PyData.int (i : Nat)).shown.length ≤ 2 := by decide +kernel
theorem piled_tup : ∀ {l : List Nat}, (∀ i ∈ l, i < 14) → piled (PyData.shownAll (l.map fun i => PyData.int (i : Nat))) ≤ 4 * l.length
  | [], _ => by simp [PyData.shownAll, piled_nil]
  | i :: l, h => by
    have ih := piled_tup (l := l) fun j hj => h j (List.mem_cons_of_mem _ hj)
    have h1 := small_ints i (h i List.mem_cons_self)
    simp only [List.map_cons, PyData.shownAll, piled_cons, List.length_cons]
    omega
theorem shown_tup_le (ds : List PyData) : (PyData.tuple ds).shown.length ≤ piled (PyData.shownAll ds) + 3 := by
  rw [PyData.shown_tuple]
  have e1 : ("(" : Str).length = 1 := by decide +kernel
  have e2 : (Str.ofString (if (ds.length == 1) = true then ",)" else ")")).length ≤ 2 := by
    split <;> decide +kernel
  cases ds with
  | nil => decide +kernel
  | cons d r =>
    have h := join_length_add (PyData.shownAll (d :: r)) (by simp [PyData.shownAll])
    rw [Str.length_append, Str.length_append]
    omega
theorem plcs_facts {b r : List Nat} (h : b.length ≤ 13) : (tupD (plcs b r)).showable = true ∧ (tupD (plcs b r)).depth ≤ 60 ∧ (tupD (plcs b r)).shown.length ≤ 100 := by
  have hl : (plcs b r).length ≤ 14 := by
    have := List.length_filter_le (fun i => F b r i r.length) (List.range (b.length + 1))
    rw [List.length_range] at this
    unfold plcs
    omega
  have hi : ∀ i ∈ plcs b r, i < 14 := fun i hi => by
    have := plcs_le i hi
    omega
  refine ⟨?_, ?_, ?_⟩
  · unfold tupD
    simp [PyData.showable, showAll_tup hi]
  · have := depthAll_tup (plcs b r)
    unfold tupD
    simp only [PyData.depth]
    omega
  · have h1 := shown_tup_le ((plcs b r).map fun i => PyData.int (i : Nat))
    have h2 := piled_tup hi
    unfold tupD
    omega
theorem small_signs : ∀ i < 14, ∀ c ∈ (PyData.int (i : Nat)).shown.cps.toList, c < 1114112 := by decide +kernel
theorem shown_in : ∀ {l : List Nat} {t : Str}, t ∈ PyData.shownAll (l.map fun i => PyData.int (i : Nat)) → ∃ i ∈ l, t = (PyData.int (i : Nat)).shown
  | [], t, h => by simp [PyData.shownAll] at h
  | i :: l, t, h => by
    simp only [List.map_cons, PyData.shownAll] at h
    rcases List.mem_cons.mp h with e | e
    · exact ⟨i, List.mem_cons_self, e⟩
    · obtain ⟨j, hj, e2⟩ := shown_in e
      exact ⟨j, List.mem_cons_of_mem _ hj, e2⟩
theorem tup_ok {l : List Nat} (hi : ∀ i ∈ l, i < 14) : PyData.strOk (tupD l).shown = true := by
  unfold PyData.strOk
  rw [← Array.all_toList, List.all_eq_true]
  intro c hc
  refine decide_eq_true ?_
  unfold tupD at hc
  rw [PyData.shown_tuple, tx_app, tx_app] at hc
  rcases List.mem_append.mp hc with hc | hc
  · rcases List.mem_append.mp hc with hc | hc
    · exact (by decide +kernel : ∀ c ∈ ("(" : Str).cps.toList, c < 1114112) c hc
    · rcases (PyProof.Rows.mem_join _ _ _).mp hc with ⟨t, ht, hct⟩ | ⟨_, hct⟩
      · obtain ⟨i, him, rfl⟩ := shown_in ht
        exact small_signs i (hi i him) c hct
      · exact (by decide +kernel : ∀ c ∈ (", " : Str).cps.toList, c < 1114112) c hct
  · split at hc
    · exact (by decide +kernel : ∀ c ∈ (Str.ofString ",)").cps.toList, c < 1114112) c hc
    · exact (by decide +kernel : ∀ c ∈ (Str.ofString ")").cps.toList, c < 1114112) c hc
theorem plcs_ok {b r : List Nat} (h : b.length ≤ 13) : PyData.strOk (tupD (plcs b r)).shown = true := tup_ok fun i hi => by
  have := plcs_le i hi
  omega
theorem next_of {E : Ends} {σ : L2.St} {H : Hp} (h : E.nx σ H) : tNext E σ H := h
/-- a test that always comes out false, at some heap -/
theorem if_false {tt : L2.TT} {tb rest : TS} {E : Ends} {σ : L2.St} {H : Hp} (R : Hp → Prop) (h : ∀ Q : Bool → Hp → Prop, (∀ H', R H' → Q false H') → tt σ H Q) (k : ∀ H', R H' → rest E σ H') : tSeq (tIfS tt tb tNext) rest E σ H :=
  h _ fun H' r => iteF (k H' r)
theorem facts1 (b : Bool) : (PyData.bool b).showable = true ∧ (PyData.bool b).depth ≤ 60 ∧ (PyData.bool b).shown.length ≤ sizeLine := by
  cases b <;> decide +kernel
theorem at_some {α : Type} {xs : List α} {n : Nat} (h : n < xs.length) : ∃ v, atI xs (n : Int) = some v ∧ v ∈ xs := ⟨xs[n], atI_nat (List.getElem?_eq_getElem h), List.getElem_mem h⟩
theorem at_end {α : Type} {xs : List α} (h : 0 < xs.length) : ∃ v, atI xs (-1) = some v ∧ v ∈ xs := by
  have hn : xs ≠ [] := fun e => by rw [e] at h; cases h
  have := atI_last xs.dropLast (xs.getLast hn)
  rw [List.dropLast_concat_getLast] at this
  exact ⟨_, this, List.getLast_mem hn⟩
/-- texts of one sign each -/
def oneV (l : List Nat) : List V := l.map fun c => V.str ⟨#[c]⟩
theorem oneV_in {l : List Nat} {v : V} (h : v ∈ oneV l) : ∃ c ∈ l, v = V.str ⟨#[c]⟩ := by
  obtain ⟨c, hc, e⟩ := List.mem_map.mp h
  exact ⟨c, hc, e.symm⟩
theorem oneV_len (l : List Nat) : (oneV l).length = l.length := List.length_map _
def swap3 : {α : Type} → List α → List α → List α
  | _, [], [a, b, c] => [c, b, a]
  | _, _, _ => []
theorem kb_next {K : PySem.W.Frag} {mg : Str → Option Value} (T : D K mg) : KBinds K T.d_next_places ["pattern", "places", "sign"] ["sign", "places", "pattern"] swap3 swap3 := by
  refine ⟨fun s us ws _ hl => ?_, fun {vs us zs ws} h1 h2 => ?_⟩
  · obtain ⟨oc, od, kV, doc, pm, an, cdv, ct, osl, e, lk, hcd⟩ := T.U_next_places.ex
    match us, ws, hl with
    | [], [a, b, c], _ =>
      rw [e]
      exact .of_eq rfl
  · cases h1 with
    | nil =>
      match zs, ws, h2 with
      | [], _, .nil => exact .nil
      | [_], _, .cons _ .nil => exact .nil
      | [_, _], _, .cons _ (.cons _ .nil) => exact .nil
      | [_, _, _], _, .cons a (.cons b (.cons c .nil)) => exact .cons c (.cons b (.cons a .nil))
      | _ :: _ :: _ :: _ :: _, _, .cons _ (.cons _ (.cons _ (.cons _ _))) => exact .nil
    | cons a b => exact .nil
section
variable {K : PySem.W.Frag} {mg : Str → Option Value} {T : D K mg} {H H1 : Hp}
theorem tab_ne {a p : Addr} {o : HO} (h : TabG H p) (e : H a = some o) (n : ∀ ps, o ≠ .tbl ps) : a ≠ p := fun z => by
  obtain ⟨ps, e1, _⟩ := h
  rw [z, e1] at e
  exact n ps (Option.some.inj e).symm
/-- a list that was made since grows -/
theorem Up.put {D : Addr} {xs ys : List V} (u : Up T H H1) (n : H D = none) (e : H1 D = some (.lst xs)) : Up T H (upd H1 D (.lst ys)) := by
  obtain ⟨⟨t1, t2⟩, k⟩ := u
  have n1 := tab_ne t1 e (fun _ q => nomatch q)
  have n2 := tab_ne t2 e (fun _ q => nomatch q)
  obtain ⟨p1, e1, x1⟩ := t1
  obtain ⟨p2, e2, x2⟩ := t2
  refine ⟨⟨⟨p1, (upd_ne (Ne.symm n1)).trans e1, x1⟩, ⟨p2, (upd_ne (Ne.symm n2)).trans e2, x2⟩⟩, fun x m1 m2 o q => ?_⟩
  rw [upd_ne (ne_of_none q n)]
  exact k x m1 m2 o q
theorem Up.tupK {a : Addr} {xs : List V} (h : TT2 T H) (u : Up T H H1) (e : H a = some (.tup xs)) : H1 a = some (.tup xs) := u.stay h _ _ e fun _ q => nomatch q
theorem Up.lstK {a : Addr} {xs : List V} (h : TT2 T H) (u : Up T H H1) (e : H a = some (.lst xs)) : H1 a = some (.lst xs) := u.stay h _ _ e fun _ q => nomatch q
end
end KP

set_option Elab.async false
set_option maxRecDepth 100000
set_option maxHeartbeats 4000000
set_option linter.all false
/-! Ours: one path walked rightly. -/
namespace KP
open PySem PySem.Spec PyProof.Rows L2 Gr GxR PM
def spWalk {K : PySem.W.Frag} {mg : Str → Option Value} (T : D K mg) : Sp := fun vs H Q _ => ∃ z r : Str, vs = [.str z, .str r] ∧ isPat z = true ∧ PP (bl r) ∧ r.length ≤ 100 ∧ TT2 T H ∧ ∀ H', Up T H H' → Q (.bl true) H'
theorem PP.take {l : List Nat} {n : Nat} (h : PP l) (hn : 0 < n) : PP (l.take n) := ⟨by rw [List.getElem?_take_of_lt hn]; exact h.1, fun c hc => h.2 c (List.mem_of_mem_take hc)⟩
theorem take_next {l : List Nat} {i c : Nat} (h : l[i]? = some c) : l.take i ++ [c] = l.take (i + 1) := by
  rw [List.take_add_one, h]
  rfl
theorem take_filt {l : List Nat} (g : Nat → Bool) {i c : Nat} (h : l[i]? = some c) : (l.take (i + 1)).filter g = (l.take i).filter g ++ (if g c = true then [c] else []) := by
  rw [List.take_add_one, h, List.filter_append]
  cases ht : g c <;> simp [ht]
theorem wnil {z : Str} {r : List Nat} : (tupV (plcs (bl (bodyOf z)) r)).all flatV = true := plcs_flat _
theorem call_reprDB {X : Cx} {s : Shared} {H : Hp} {sc : Scope} {en : Env} {fp : List Addr} (hgu : X.A.guards = some []) (hu : X.A.units + 64 < cLine) (hM : SysM X.K) : CallR (X.blk s H sc en fp) (.builtin "repr") (rRepr X.K) := call_reprD (X := X.blk s H sc en fp) hgu hu hM
theorem gn {i : Nat} {v : V} {σ : L2.St} {H : Hp} {Q : L2.St → Hp → Prop} (h : Q (σ.set i (some v)) H) : gName i v σ H Q := h
section
variable {P : Program} {w : World} {K : PySem.W.Frag} {mg : Str → Option Value} {base : Heap}
theorem sc_walk : FnScope ["_law_shape", "_law_route", "_law_body_here", "_law_here", "_law_end", "_law_due", "_law_others", "_law_far", "_law_last", "_law_sign"] ["_law_shape", "_law_route"] (defScope s_l_walk_right) := ⟨rfl, rfl, rfl, by decide +kernel, rfl, by decide +kernel, by decide +kernel⟩
theorem ok_l_walk (T : D K mg) (TB : Tabs base T) (hM : SysM K) : FnQ P w K mg base CX0 7 T.f_l_walk_right T.d_l_walk_right ["_law_shape", "_law_route"] (spWalk T) := by
  refine funQ T.U_l_walk_right sc_walk (fun vs H Q E h => ?_) (fun cdv A outer s H vs Q E hgu hr h => ?_)
  · obtain ⟨z, r, rfl, _⟩ := h
    rfl
  · obtain ⟨z, r, rfl, hz, hrp, hrl, hT, k⟩ := h
    have nd := sc_walk.nd
    have hu64 : (A.deeper (envOfC "_law_walk_right" (defScope s_l_walk_right) s.heap.objs.size T.f_l_walk_right cdv)).units + 64 < cLine := hr.units
    have mz : 1000 ≤ sizeLine := by decide
    refine ⟨_, pss_cons (ps_asg (pe_tup (pa_cons (pe_call (ok_l_body T) (hr.mono (by decide)) rfl T.g_l_body T.U_l_body.kp T.b_l_body .nil pass0 (pa_cons (pv 0) pa_nil)) (pa_cons (pe_tup pa_nil) pa_nil))) (pg_tup rfl (pgs_cons (pg_name (i := 2) nd rfl (.inl rfl)) (pgs_cons (pg_name (i := 3) nd rfl (.inr rfl)) pgs_nil))))
      (pss_cons (ps_for PassesOwn.never rfl (pi_range2 rfl T.range (pa_cons pe_int (pa_cons (pe_op op_add (pe_callB call_len_str (by rfl) T.len PySem.boot_len (pa_cons (pv 1) pa_nil)) pe_int) pa_nil))) (pg_name (i := 4) nd rfl (.inl rfl))
        (pss_cons (ps_set (i := 5) nd rfl (.inl rfl) (pe_call (ok_due T) (hr.mono (by decide)) rfl T.g_l_due_places T.U_l_due_places.kp T.b_l_due_places .nil pass0 (pa_cons (pv 2) (pa_cons (pe_slice sl_str (pv 1) po_none (po_some (pv 4))) pa_nil))))
        (pss_cons (ps_if (pt_cmpR op_ne (pe_callB (call_reprD hgu hu64 hM) (by rfl) T.repr (by decide +kernel) (pa_cons (pe_call (ok_places T TB) (hr.mono (by decide)) rfl T.g_places T.U_places.kp T.b_places .nil pass0 (pa_cons (pv 0) (pa_cons (pe_slice sl_str (pv 1) po_none (po_some (pv 4))) pa_nil))) pa_nil)) (pe_callB (call_reprD hgu hu64 hM) (by rfl) T.repr (by decide +kernel) (pa_cons (pv 5) pa_nil)) (nomark _))
          (pss_one (ps_ret pe_bl))
          (pss_nil))
        (pss_cons (ps_if (PW.pt (pw_and (pt_cmpR op_gt (pv 4) pe_int (nomark _)) (pw_and1 (pt_cmpR op_ne (pe_callB (call_reprD hgu hu64 hM) (by rfl) T.repr (by decide +kernel) (pa_cons (pe_call (ok_next T TB) (hr.mono (by decide)) rfl T.g_next_places T.U_next_places.kp T.b_next_places .nil pass0 (pa_cons (pv 0) (pa_cons (pv 3) (pa_cons (pe_ix ix_str (pv 1) (pe_op op_sub (pv 4) pe_int) (fun _ _ => rfl)) pa_nil)))) pa_nil)) (pe_callB (call_reprD hgu hu64 hM) (by rfl) T.repr (by decide +kernel) (pa_cons (pv 5) pa_nil)) (nomark _)))))
          (pss_one (ps_ret pe_bl))
          (pss_nil))
        (pss_cons (ps_if (pt_cmpR op_ne (pe_callB (call_reprD hgu hu64 hM) (by rfl) T.repr (by decide +kernel) (pa_cons (pe_call (ok_meets T TB) hr rfl T.g_meets T.U_meets.kp T.b_meets .nil pass0 (pa_cons (pv 0) (pa_cons (pe_slice sl_str (pv 1) po_none (po_some (pv 4))) pa_nil))) pa_nil)) (pe_callB (call_reprD hgu hu64 hM) (by rfl) T.repr (by decide +kernel) (pa_cons (pe_cmpR op_in_seq (pe_callB call_len_str (by rfl) T.len PySem.boot_len (pa_cons (pv 2) pa_nil)) (pv 5) rfl) pa_nil)) (nomark _))
          (pss_one (ps_ret pe_bl))
          (pss_nil))
        (pss_one (ps_set (i := 3) nd rfl (.inr rfl) (pv 5))))))))
      (pss_cons (ps_setLc (i := 6) (own := [("_law_sign", 9)]) (g := gName 9) rfl nd rfl rfl (sw_true rfl rfl rfl (by decide +kernel)) (pi_str (pe_call0 (ok_l_signs T) (hr.mono (by decide)) (by rfl) T.g_l_signs T.U_l_signs.kp T.b_l_signs .nil pass0)) (blkOk_by (N := ["_law_shape", "_law_route", "_law_body_here", "_law_here", "_law_end", "_law_due", "_law_others", "_law_far", "_law_last", "_law_sign"]) (sc := defScope s_l_walk_right) (by decide +kernel)) (fun _ _ _ _ _ => pg_name (i := 9) nd rfl (.inl rfl)) (fun _ _ _ _ _ => (pts_one (pt_cmpR op_notIn_sign (pv 9) (pv 0) rfl))) (fun _ _ _ _ _ => pv 9))
      (pss_cons (ps_setLc (i := 7) (own := [("_law_sign", 9)]) (g := gName 9) (tt := tYes) rfl nd rfl rfl (sw_true rfl rfl rfl (by decide +kernel)) (pi_list (pe_lst (pa_cons (pe_ix ix_list (pv 6) pe_int (fun _ _ => rfl)) (pa_cons (pe_ix ix_list (pv 6) (pe_op op_fdiv (pe_callB call_len_seq (by rfl) T.len PySem.boot_len (pa_cons (pv 6) pa_nil)) pe_int) (fun _ _ => rfl)) (pa_cons (pe_ix ix_list (pv 6) (pe_un un_neg pe_int) (fun _ _ => rfl)) pa_nil))))) (blkOk_by (N := ["_law_shape", "_law_route", "_law_body_here", "_law_here", "_law_end", "_law_due", "_law_others", "_law_far", "_law_last", "_law_sign"]) (sc := defScope s_l_walk_right) (by decide +kernel)) (fun _ _ _ _ _ => pg_name (i := 9) nd rfl (.inl rfl)) (fun _ _ _ _ _ => pts_nil) (fun _ _ _ _ _ => pe_callB (call_reprDB hgu hu64 hM) (by rfl) T.repr (by decide +kernel) (pa_cons (pe_call (ok_next T TB) (hr.mono (by decide)) rfl T.g_next_places T.U_next_places.kp T.b_next_places .nil pass0 (pa_cons (pv 0) (pa_cons (pv 3) (pa_cons (pv 9) pa_nil)))) pa_nil)))
      (pss_cons (ps_if (pt_cmpR (op_neD hr.units) (pv 7) (pe_op op_rep (pe_lst (pa_cons (pe_callB (call_reprD hgu hu64 hM) (by rfl) T.repr (by decide +kernel) (pa_cons (pe_call (ok_due T) (hr.mono (by decide)) rfl T.g_l_due_places T.U_l_due_places.kp T.b_l_due_places .nil pass0 (pa_cons (pv 2) (pa_cons (pe_op op_add_str (pv 1) (pe_ix ix_list (pv 6) pe_int (fun _ _ => rfl))) pa_nil))) pa_nil)) pa_nil)) pe_int) (nomark _))
        (pss_one (ps_ret pe_bl))
        (pss_nil))
      (pss_cons (ps_set (i := 8) nd rfl (.inl rfl) (pe_ix ix_str (pv 1) (pe_un un_neg pe_int) (fun _ _ => rfl)))
      (pss_one (ps_ret (pe_cmpR op_eq (pe_callB (call_reprD hgu hu64 hM) (by rfl) T.repr (by decide +kernel) (pa_cons (pe_callK0 (ok_next T TB) (hr.mono (by decide)) rfl T.g_next_places T.U_next_places.kp (kb_next T) pass0 (pk_cons (pv 8) (pk_cons (pv 3) (pk_cons (pv 0) pk_nil)))) pa_nil)) (pe_callB (call_reprD hgu hu64 hM) (by rfl) T.repr (by decide +kernel) (pa_cons (pe_call (ok_due T) (hr.mono (by decide)) rfl T.g_l_due_places T.U_l_due_places.kp T.b_l_due_places .nil pass0 (pa_cons (pv 2) (pa_cons (pe_op op_add_str (pv 1) (pv 8)) pa_nil))) pa_nil)) (nomark _))))))))), ?_⟩
    have lz := isPat_len hz
    have lb : (bl (bodyOf z)).length ≤ 13 := body_len hz
    have lb2 := body_len hz
    have hrP : isPath r = true := isPath_of hrp
    refine ⟨_, rfl, z, rfl, hz, by show 0 ≤ sizeLine; omega, fun q0 hq0 => ⟨by show 2 ≤ sizeLine; decide, fun t0 ht0 => ⟨t0, _, rfl, .inl (.inl upd_same), rfl, _, _, rfl, _, _, rfl, rfl, ?_⟩⟩⟩
    have s0 := (same_upd (o := HO.tup []) hq0).trans (same_upd (o := HO.tup [V.str (bodyOf z), V.ref q0]) ht0)
    refine ⟨_, rfl, _, rfl, by omega, _, _, rfl, rfl, _, _, rfl, by omega, ?_⟩
    refine for_range (lo := 1) (n := _) (fun i σ H2 => Up T H H2 ∧ ∃ (q : Addr) (v4 v5 : Option V), σ = [some (.str z), some (.str r), some (.str (bodyOf z)), some (.ref q), v4, v5, none, none, none, none] ∧ (0 < i → H2 q = some (.tup (tupV (plcs (bl (bodyOf z)) ((bl r).take i))))))
      ⟨Up.same hT s0, q0, none, none, rfl, fun h => absurd h (by decide)⟩ ?_ ?_
    · rintro i σ H2 hi ⟨u2, q, v4, v5, rfl, hq⟩
      have hir : i < r.length := by omega
      have cut : ∀ j : Int, j = 1 + (i : Nat) → bl (cutS r none (some j)) = (bl r).take (i + 1) := fun j e => by
        have : j = ((i + 1 : Nat) : Int) := by omega
        rw [this]
        exact cut_to r (i + 1)
      have cutl : ∀ j : Int, (cutS r none (some j)).length ≤ 1000 := fun j => Nat.le_trans (cutS_length r none (some j)) (by omega)
      have cutP : isPath (cutS r none (some (1 + ((i : Nat) : Int)))) = true := isPath_of (by rw [cut _ rfl]; exact hrp.take (Nat.succ_pos _))
      obtain ⟨f1, f2, f3⟩ := plcs_facts (r := (bl r).take (i + 1)) lb
      have f3' := Nat.le_trans f3 (by decide : 100 ≤ sizeLine)
      -- due
      refine ⟨_, rfl, _, rfl, _, rfl, _, rfl, r, rfl, by omega, _, _, rfl, by omega, cutl _, fun p H3 s3 hp e3 => ?_⟩
      rw [cut _ rfl] at e3
      have u3 := u2.trans (Up.same u2.1 s3)
      -- places
      refine gn ?_
      dsimp only
      have hadd : r.length + 1 ≤ sizeLine := by omega
      refine if_false (fun H' => Up T H3 H') (fun Q' q' => ?_) (fun H4 u4 => ?_)
      · refine ⟨_, rfl, _, rfl, _, rfl, _, rfl, r, rfl, by omega, z, _, rfl, hz, cutP, cutl _, u3.1, fun p2 H4 u4 e4 => ?_⟩
        rw [cut _ rfl] at e4
        refine ⟨_, _, rfl, dq_tup e4, f1, f2, f3', _, rfl, _, _, rfl, dq_tup (Up.tupK u3.1 u4 e3), f1, f2, f3', rfl, _, rfl, ?_⟩
        rw [decide_eq_true rfl]
        exact q' _ u4
      have e4 := Up.tupK u3.1 u4 e3
      refine if_false (fun H' => Up T H4 H') (fun Q' q' => ?_) (fun H5 u5 => ?_)
      · refine ⟨_, rfl, _, _, rfl, rfl, _, rfl, ite2 (fun h => ?_) (fun h => q' _ (Up.refl u4.1))⟩
        have i0 : 0 < i := by
          have := of_decide_eq_true h
          omega
        have hq4 := Up.tupK u3.1 u4 (s3 _ _ (hq i0))
        obtain ⟨c, hc⟩ : ∃ c, (bl r)[i]? = some c := ⟨(bl r)[i]'hir, List.getElem?_eq_getElem hir⟩
        have hat : atI r.cps.toList (1 + ((i : Nat) : Int) - 1) = some c := by
          have e : 1 + ((i : Nat) : Int) - 1 = ((i : Nat) : Int) := by omega
          rw [e]
          exact atI_nat hc
        refine ⟨_, rfl, _, rfl, _, rfl, _, rfl, _, _, rfl, rfl, r, _, c, rfl, rfl, by omega, hat, z, q, (bl r).take i, c, rfl, hz, hq4, u4.1, fun p2 H5 u5 e5 => ?_⟩
        rw [take_next hc] at e5
        refine ⟨_, _, rfl, dq_tup e5, f1, f2, f3', _, rfl, _, _, rfl, dq_tup (Up.tupK u4.1 u5 e4), f1, f2, f3', rfl, _, rfl, ?_⟩
        rw [decide_eq_true rfl]
        exact q' _ u5
      have e5 := Up.tupK u4.1 u5 e4
      refine if_false (fun H' => Up T H5 H') (fun Q' q' => ?_) (fun H6 u6 => ?_)
      · obtain ⟨g1, g2, g3⟩ := facts1 (met (bl (bodyOf z)) ((bl r).take (i + 1)))
        refine ⟨_, rfl, _, rfl, _, rfl, _, rfl, r, rfl, by omega, z, _, rfl, hz, cutP, cutl _, u5.1, fun H6 u6 => ?_⟩
        rw [cut _ rfl]
        refine ⟨_, _, rfl, .bl _, g1, g2, g3, _, rfl, _, rfl, Nat.le_trans lb2 (by decide), _, rfl, p, _, rfl, .inr (.inl (.inl (Up.tupK u5.1 u6 e5))), rfl, wnil, ?_⟩
        rw [show (if false = true then !inV (.int ((bodyOf z).length : Nat)) ((plcs (bl (bodyOf z)) ((bl r).take (i + 1))).map fun i => V.int (i : Nat)) else inV (.int ((bodyOf z).length : Nat)) ((plcs (bl (bodyOf z)) ((bl r).take (i + 1))).map fun i => V.int (i : Nat))) = met (bl (bodyOf z)) ((bl r).take (i + 1)) from plcs_in _ _]
        refine ⟨_, _, rfl, .bl _, g1, g2, g3, rfl, _, rfl, ?_⟩
        rw [decide_eq_true rfl]
        exact q' _ u6
      have e6 := Up.tupK u5.1 u6 e5
      exact ⟨_, rfl, u3.trans (u4.trans (u5.trans u6)), p, _, _, rfl, fun _ => e6⟩
    · rintro σ H2 ⟨u2, q, v4, v5, rfl, hq⟩
      have hl : (bl r).length = r.length := rfl
      have h0 := (List.getElem?_eq_some_iff.mp hrp.1).1
      have hq2 : H2 q = some (.tup (tupV (plcs (bl (bodyOf z)) (bl r)))) := by
        have e : (bl r).take (((r.length : Nat) : Int) + 1 - 1).toNat = bl r := List.take_of_length_le (by omega)
        rw [e] at hq
        exact hq (by omega)
      have hSG : SG.length = 40 := by decide +kernel
      -- the signs that the pattern doesn't write
      refine ⟨rfl, SGs, rfl, fun D hD => lc_it (walk_str (z := SGs)) (fun i H3 => Same H2 H3 ∧ H3 D = some (.lst (oneV ((SG.take i).filter fun c => !decide (c ∈ bl z))))) ⟨same_upd hD, upd_same⟩ (fun _ _ _ _ => trivial) ?_ ?_⟩
      · rintro i x H3 H4 hi ⟨s3, hDs⟩ ⟨rfl, c, hc, rfl⟩
        have hcl : SG[i]? = some c := (Array.getElem?_toList (xs := SGs.cps) (i := i)).trans hc
        have er := take_filt (fun c => !decide (c ∈ bl z)) hcl
        refine ⟨rfl, ?_⟩
        refine ⟨_, rfl, _, rfl, c, z, rfl, rfl, _, rfl, ite2 (fun h => ?_) (fun h => ?_)⟩
        · refine ⟨_, rfl, _, hDs, ?_, same_into hD s3, ?_⟩
          · rw [oneV_len]
            have h1 := List.length_filter_le (fun c => !decide (c ∈ bl z)) (SG.take i)
            rw [List.length_take] at h1
            exact small1000 (by omega)
          · rw [upd_same, er, if_pos h]
            unfold oneV
            rw [List.map_append]
            rfl
        · refine ⟨s3, ?_⟩
          rw [er, if_neg h, List.append_nil]
          exact hDs
      · rintro H3 ⟨s3, hDs⟩
        have hD3 : H3 D = some (.lst (oneV (oth z))) := by
          have e : SG.take SGs.cps.size = SG := List.take_of_length_le (Nat.le_refl _)
          rw [e] at hDs
          exact hDs
        have hD2 : H2 D = none := hD
        have u3 := u2.trans (Up.same u2.1 s3)
        have hq3 := s3 _ _ hq2
        have pos := oth_pos lz.2
        have ole := oth_le (z := z)
        have pos' : 0 < (oneV (oth z)).length := by rw [oneV_len]; exact pos
        obtain ⟨v1, a1, m1⟩ := at_some (xs := oneV (oth z)) (n := 0) pos'
        obtain ⟨v2, a2, m2⟩ := at_some (xs := oneV (oth z)) (n := (oneV (oth z)).length / 2) (by omega)
        obtain ⟨v3, a3, m3⟩ := at_end (xs := oneV (oth z)) pos'
        obtain ⟨c1, o1, rfl⟩ := oneV_in m1
        obtain ⟨c2, o2, rfl⟩ := oneV_in m2
        obtain ⟨c3, o3, rfl⟩ := oneV_in m3
        have n1 := oth_out o1
        have n2 := oth_out o2
        have n3 := oth_out o3
        have x12 : plcs (bl (bodyOf z)) (bl r ++ [c2]) = plcs (bl (bodyOf z)) (bl r ++ [c1]) := plcs_far n2 n1
        have x13 : plcs (bl (bodyOf z)) (bl r ++ [c3]) = plcs (bl (bodyOf z)) (bl r ++ [c1]) := plcs_far n3 n1
        obtain ⟨f1, f2, f3⟩ := plcs_facts (r := bl r ++ [c1]) lb
        have f3' := Nat.le_trans f3 (by decide : 100 ≤ sizeLine)
        -- at three of them
        have a2' : atI (oneV (oth z)) ((((oneV (oth z)).length : Nat) : Int) / 2) = some (V.str ⟨#[c2]⟩) := a2
        refine ⟨_, rfl, D, _, _, _, rfl, rfl, SqL.of hD3, a1, _, rfl, _, rfl, D, _, rfl, .inl (SqL.of hD3), _, _, rfl, rfl, ⟨by decide, by decide⟩, D, _, _, _, rfl, rfl, SqL.of hD3, a2', _, rfl, _, rfl, D, _, _, _, rfl, rfl, SqL.of hD3, a3, by show 3 ≤ sizeLine; decide, fun l hl => ?_⟩
        have s4 := same_upd (o := HO.lst [V.str ⟨#[c1]⟩, V.str ⟨#[c2]⟩, V.str ⟨#[c3]⟩]) hl
        have u4 := u3.trans (Up.same u3.1 s4)
        refine ⟨l, rfl, ⟨_, SqL.of upd_same⟩, fun E1 hE1 => lc_list (K := K) (a := l) (xs := [V.str ⟨#[c1]⟩, V.str ⟨#[c2]⟩, V.str ⟨#[c3]⟩]) (fun i H5 => Up T (upd H3 l (.lst [V.str ⟨#[c1]⟩, V.str ⟨#[c2]⟩, V.str ⟨#[c3]⟩])) H5 ∧ H5 E1 = some (.lst (List.replicate i (V.str (tupD (plcs (bl (bodyOf z)) (bl r ++ [c1]))).shown)))) ⟨Up.same u4.1 (same_upd hE1), upd_same⟩ (fun i H5 _ q5 => SqL.of (Up.lstK u4.1 q5.1 upd_same)) ?_ ?_⟩
        · rintro i x H5 hi ⟨u5, e5⟩
          have hx : ∃ c, x = V.str ⟨#[c]⟩ ∧ plcs (bl (bodyOf z)) (bl r ++ [c]) = plcs (bl (bodyOf z)) (bl r ++ [c1]) := by
            obtain ⟨hj, e⟩ := List.getElem?_eq_some_iff.mp hi
            match i, hj, e with
            | 0, _, e => exact ⟨c1, e.symm, rfl⟩
            | 1, _, e => exact ⟨c2, e.symm, x12⟩
            | 2, _, e => exact ⟨c3, e.symm, x13⟩
          obtain ⟨c, rfl, xc⟩ := hx
          have hi3 : i < 3 := (List.getElem?_eq_some_iff.mp hi).1
          refine ⟨rfl, ?_⟩
          unfold tYes
          dsimp only
          rw [if_pos rfl]
          refine ⟨_, rfl, _, rfl, _, rfl, z, q, bl r, c, rfl, hz, Up.tupK u4.1 u5 (s4 _ _ hq3), u5.1, fun p2 H6 u6 e6 => ?_⟩
          rw [xc] at e6
          refine ⟨_, _, rfl, dq_tup e6, f1, f2, f3', _, Up.lstK u5.1 u6 e5, ?_, Up.put (u5.trans u6) hE1 (Up.lstK u5.1 u6 e5), ?_⟩
          · rw [List.length_replicate]
            exact small1000 (by omega)
          · rw [upd_same, List.replicate_succ']
        · rintro H5 ⟨u5, e5⟩
          have u5' := u4.trans u5
          have hD5 := Up.lstK u4.1 u5 (s4 _ _ hD3)
          have hq5 := Up.tupK u4.1 u5 (s4 _ _ hq3)
          have ert : bl (r ++ (⟨#[c1]⟩ : Str)) = bl r ++ [c1] := tx_app _ _
          have lrt : (r ++ (⟨#[c1]⟩ : Str)).length = r.length + 1 := by
            rw [PySem.Str.length_append]
            rfl
          refine ⟨_, rfl, _, rfl, _, rfl, _, rfl, D, _, _, _, rfl, rfl, SqL.of hD5, a1, _, _, rfl, rfl, ?_, bodyOf z, r ++ (⟨#[c1]⟩ : Str), rfl, by omega, by omega, fun p H6 s6 hp e6 => ?_⟩
          · show r.length + 1 ≤ sizeLine
            omega
          rw [ert] at e6
          refine ⟨_, _, rfl, dq_tup e6, f1, f2, f3', by show 1 ≤ sizeLine; decide, fun l2 hl2 => ⟨l2, 3, _, rfl, rfl, upd_same, by decide, by decide, by show 3 ≤ sizeLine; decide, fun m hm => ?_⟩⟩
          have okS := plcs_ok (r := bl r ++ [c1]) lb
          generalize eS : (tupD (plcs (bl (bodyOf z)) (bl r ++ [c1]))).shown = S at *
          have s7 := (same_upd (o := HO.lst [V.str S]) hl2).trans (same_upd (o := HO.lst ((List.replicate (3 : Int).toNat [V.str S]).flatten)) hm)
          have u7 := (Up.same u5'.1 (s6.trans s7))
          refine ⟨.list [.str S, .str S, .str S], .list [.str S, .str S, .str S], .lst (SqL.of ((s6.trans s7) _ _ e5)) (.cons (.str _) (.cons (.str _) (.cons (.str _) .nil))), .lst (SqL.of upd_same) (.cons (.str _) (.cons (.str _) (.cons (.str _) .nil))), ?_, ?_, _, rfl, ?_⟩
          · simp [SeqAt.shaped, PyData.canLay0, PyData.canLayAll0, PyData.depth, PyData.depthAll, okS]
          · simp [SeqAt.shaped, PyData.canLay0, PyData.canLayAll0, PyData.depth, PyData.depthAll, okS]
          have ev : (!PyData.eqv (.list [.str S, .str S, .str S]) (.list [.str S, .str S, .str S])) = false := by
            rw [SeqAt.eqv_refl _ (by simp [PyData.canLay0, PyData.canLayAll0, okS])]
            rfl
          rw [ev]
          refine iteF ?_
          refine next_of ?_
          dsimp only
          obtain ⟨cl, hc1, _⟩ := last_item r (by omega)
          refine ⟨_, rfl, _, rfl, r, _, cl, rfl, rfl, by omega, hc1, gn ?_⟩
          dsimp only
          have hq7 := (s6.trans s7) _ _ hq5
          have erl : bl (r ++ (⟨#[cl]⟩ : Str)) = bl r ++ [cl] := tx_app _ _
          have lrl : (r ++ (⟨#[cl]⟩ : Str)).length = r.length + 1 := by
            rw [PySem.Str.length_append]
            rfl
          obtain ⟨g1, g2, g3⟩ := plcs_facts (r := bl r ++ [cl]) lb
          have g3' := Nat.le_trans g3 (by decide : 100 ≤ sizeLine)
          refine ⟨_, rfl, _, rfl, _, rfl, z, q, bl r, cl, rfl, hz, hq7, u7.1, fun p8 H8 u8 e8 => ⟨_, _, rfl, dq_tup e8, g1, g2, g3', _, rfl, _, rfl, _, rfl, _, _, rfl, rfl, ?_, bodyOf z, r ++ (⟨#[cl]⟩ : Str), rfl, by omega, by omega, fun p9 H9 s9 hp9 e9 => ?_⟩⟩
          · show r.length + 1 ≤ sizeLine
            omega
          rw [erl] at e9
          refine ⟨_, _, rfl, dq_tup e9, g1, g2, g3', rfl, ?_⟩
          have qq := k H9 (u5'.trans (u7.trans (u8.trans (Up.same u8.1 s9))))
          show Q (.bl (decide (V.str _ = V.str _))) H9
          rw [decide_eq_true rfl]
          exact qq
end
end KP

set_option Elab.async false
set_option maxRecDepth 100000
set_option maxHeartbeats 4000000
set_option linter.all false
/-! Ours: one turn of the law. -/
namespace KP
open PySem PySem.Spec PyProof.Rows L2 Gr GxR PM
/-- what a turn may change -/
def Mv {K : PySem.W.Frag} {mg : Str → Option Value} (T : D K mg) (p : Addr) (H H' : Hp) : Prop := (∀ b o, H b = some o → b ≠ p → (∀ ps, o ≠ .tbl ps) → H' b = some o) ∧ Well H' p ∧ TT2 T H'
section
variable {K : PySem.W.Frag} {mg : Str → Option Value} {T : D K mg} {p : Addr} {H H1 H2 : Hp}
theorem Mv.refl (w : Well H p) (h : TT2 T H) : Mv T p H H := ⟨fun _ _ e _ _ => e, w, h⟩
theorem Mv.trans (a : Mv T p H H1) (b : Mv T p H1 H2) : Mv T p H H2 := ⟨fun x o e n m => b.1 x o (a.1 x o e n m) n m, b.2⟩
theorem Mv.but (w : Well H p) (h : TT2 T H) (b : But H H1 p) (w1 : Well H1 p) : Mv T p H H1 := by
  refine ⟨fun x o e n _ => b x o e n, w1, ?_, ?_⟩
  · obtain ⟨ps, e, t⟩ := h.1
    refine ⟨ps, b _ _ e fun z => ?_, t⟩
    obtain ⟨_, _, _, ew⟩ := w
    rw [z, ew] at e
    cases e
  · obtain ⟨ps, e, t⟩ := h.2
    refine ⟨ps, b _ _ e fun z => ?_, t⟩
    obtain ⟨_, _, _, ew⟩ := w
    rw [z, ew] at e
    cases e
theorem Mv.up (w : Well H p) (h : TT2 T H) (u : Up T H H1) : Mv T p H H1 := by
  have s := u.stay h
  refine ⟨fun x o e _ m => s x o e m, ?_, u.1⟩
  obtain ⟨a, b, c, e⟩ := w
  exact ⟨a, b, c, s _ _ e (fun _ q => nomatch q)⟩
theorem Mv.same (w : Well H p) (h : TT2 T H) (s : Same H H1) : Mv T p H H1 := Mv.up w h (Up.same h s)
theorem Mv.lst (m : Mv T p H H1) {a : Addr} {xs : List V} (e : H a = some (.lst xs)) (n : a ≠ p) : H1 a = some (.lst xs) := m.1 _ _ e n fun _ q => nomatch q
end
def spRight {K : PySem.W.Frag} {mg : Str → Option Value} (T : D K mg) : Sp := fun vs H Q _ => ∃ p : Addr, vs = [.ref p] ∧ Well H p ∧ TT2 T H ∧ ∀ H', Mv T p H H' → Q (.bl true) H'
theorem one_lists {a : Addr} {p : Addr} {H : Hp} (w : Well H p) (h : H a = none) : a ≠ p := fun e => by
  obtain ⟨_, _, _, ew⟩ := w
  rw [e, ew] at h
  cases h
theorem ints_in {l : List Int} {j : Nat} {v : V} (h : (l.map V.int)[j]? = some v) : ∃ n ∈ l, v = .int n := by
  rw [List.getElem?_map] at h
  cases q : l[j]? with
  | none => rw [q] at h; cases h
  | some n =>
    rw [q] at h
    exact ⟨n, List.mem_of_getElem? q, (Option.some.inj h).symm⟩
section
variable {P : Program} {w : World} {K : PySem.W.Frag} {mg : Str → Option Value} {base : Heap}
theorem sc_right : FnScope ["_law_well_here", "_law_signs_here", "_law_shape", "_law_route"] ["_law_well_here"] (defScope s_l_right) := ⟨rfl, rfl, rfl, by decide +kernel, rfl, by decide +kernel, by decide +kernel⟩
theorem ok_l_right (T : D K mg) (TB : Tabs base T) (hM : SysM K) : FnQ P w K mg base CX0 8 T.f_l_right T.d_l_right ["_law_well_here"] (spRight T) := by
  refine funQ T.U_l_right sc_right (fun vs H Q E h => ?_) (fun cdv A outer s H vs Q E hgu hr h => ?_)
  · obtain ⟨p, rfl, _⟩ := h
    rfl
  · obtain ⟨p, rfl, hp, hT, k⟩ := h
    have nd := sc_right.nd
    have mz : 5000 ≤ sizeLine := by decide
    have GR : FnQ P w K mg base CX0 7 T.f_l_walk_right T.d_l_walk_right ["_law_shape", "_law_route"] (spWalk T) := ok_l_walk T TB hM
    refine ⟨_, pss_cons (ps_set (i := 1) nd rfl (.inl rfl) (pe_call (ok_l_alphabet T) (hr.mono (by decide)) rfl T.g_l_alphabet T.U_l_alphabet.kp T.b_l_alphabet .nil pass0 (pa_cons (pv 0) pa_nil)))
      (pss_cons (ps_set (i := 2) nd rfl (.inl rfl) (pe_call (ok_l_some_pattern T) (hr.mono (by decide)) rfl T.g_l_some_pattern T.U_l_some_pattern.kp T.b_l_some_pattern .nil pass0 (pa_cons (pv 0) (pa_cons (pv 1) (pa_cons (pe_call (ok_l_one T) (hr.mono (by decide)) rfl T.g_l_one T.U_l_one.kp T.b_l_one .nil pass0 (pa_cons (pv 0) (pa_cons (pe_lst (pa_cons pe_int (pa_cons pe_int (pa_cons pe_int (pa_cons pe_int pa_nil))))) pa_nil))) (pa_cons (pe_call (ok_l_one T) (hr.mono (by decide)) rfl T.g_l_one T.U_l_one.kp T.b_l_one .nil pass0 (pa_cons (pv 0) (pa_cons (pe_lst (pa_cons pe_int (pa_cons pe_int (pa_cons pe_int pa_nil)))) pa_nil))) pa_nil))))))
      (pss_cons (ps_set (i := 3) nd rfl (.inl rfl) (pe_slice sl_str (pe_call (ok_l_some_path T) (hr.mono (by decide)) rfl T.g_l_some_path T.U_l_some_path.kp T.b_l_some_path .nil pass0 (pa_cons (pv 0) (pa_cons (pv 1) (pa_cons (pv 2) pa_nil)))) po_none (po_some pe_int)))
      (pss_one (ps_ret (pe_and (pe_callQ hgu GR hr rfl T.g_l_walk_right T.U_l_walk_right.kp T.b_l_walk_right .nil pass0 (pa_cons (pv 2) (pa_cons (pv 3) pa_nil))) (pe_one (pe_callQ hgu GR hr rfl T.g_l_walk_right T.U_l_walk_right.kp T.b_l_walk_right .nil pass0 (pa_cons (pe_call (ok_l_some_pattern T) (hr.mono (by decide)) rfl T.g_l_some_pattern T.U_l_some_pattern.kp T.b_l_some_pattern .nil pass0 (pa_cons (pv 0) (pa_cons (pv 1) (pa_cons pe_int (pa_cons pe_int pa_nil))))) (pa_cons (pe_slice sl_str (pv 3) po_none (po_some pe_int)) pa_nil))))))))), ?_⟩
    refine ⟨_, rfl, p, rfl, hp, fun q xs H1 hq b1 w1 e1 x0 x1 xo => ?_⟩
    have nqp : q ≠ p := one_lists hp hq
    have m1 := Mv.but hp hT b1 w1
    refine ⟨_, rfl, _, rfl, _, rfl, by show 4 ≤ sizeLine; decide, fun l hl => ?_⟩
    have nlp := one_lists w1 hl
    have k2 := Mv.same m1.2.1 m1.2.2 (same_upd (o := HO.lst [V.int 0, V.int 1, V.int 2, V.int 4]) hl)
    refine ⟨p, l, _, rfl, k2.2.1, upd_same, nlp, by show 0 < 4; decide, by show 4 ≤ 1000; decide, fun j v H3 hv w3 b3 => ?_⟩
    obtain ⟨n, _, rfl⟩ := ints_in (l := [0, 1, 2, 4]) hv
    have k3 := k2.trans (Mv.but k2.2.1 k2.2.2 b3 w3)
    refine ⟨_, rfl, by show 3 ≤ sizeLine; decide, fun l2 hl2 => ?_⟩
    have nl2 := one_lists w3 hl2
    have k4 := k3.trans (Mv.same k3.2.1 k3.2.2 (same_upd (o := HO.lst [V.int 3, V.int 6, V.int 10]) hl2))
    refine ⟨p, l2, _, rfl, k4.2.1, upd_same, nl2, by show 0 < 3; decide, by show 3 ≤ 1000; decide, fun j2 v2 H5 hv2 w5 b5 => ?_⟩
    obtain ⟨n2, hn2, rfl⟩ := ints_in (l := [3, 6, 10]) hv2
    have hn : 0 ≤ n2 ∧ n2 ≤ 10 := by
      simp only [List.mem_cons, List.not_mem_nil, or_false] at hn2
      omega
    have k5 := k4.trans (Mv.but k4.2.1 k4.2.2 b5 w5)
    have e5 : H5 q = some (.lst xs) := k5.lst e1 nqp
    refine ⟨p, q, n, n2, xs, rfl, w5, e5, nqp, x0, by omega, xo, hn.1, hn.2, fun a H6 b6 w6 ha => ?_⟩
    have k6 := k5.trans (Mv.but k5.2.1 k5.2.2 b6 w6)
    have e6 : H6 q = some (.lst xs) := b6 _ _ e5 nqp
    refine ⟨_, rfl, _, rfl, _, rfl, p, q, a, xs, rfl, w6, e6, nqp, x0, by omega, xo, ha, fun r H7 b7 w7 pr lr => ?_⟩
    have k7 := k6.trans (Mv.but k6.2.1 k6.2.2 b7 w7)
    have e7 : H7 q = some (.lst xs) := b7 _ _ e6 nqp
    have c14 : bl (cutS r none (some 14)) = (bl r).take 14 := cut_to r 14
    have l14 := cutS_length r none (some 14)
    have p14 : PP (bl (cutS r none (some 14))) := by rw [c14]; exact pr.take (by decide)
    refine ⟨_, rfl, r, rfl, by omega, ?_⟩
    generalize cutS r none (some 14) = r1 at *
    have c6 : bl (cutS r1 none (some 6)) = (bl r1).take 6 := cut_to r1 6
    have l6 := cutS_length r1 none (some 6)
    have p6 : PP (bl (cutS r1 none (some 6))) := by rw [c6]; exact p14.take (by decide)
    refine ⟨_, rfl, _, rfl, a, r1, rfl, ha, p14, by omega, k7.2.2, fun H8 u8 => ⟨true, rfl, iteT ?_⟩⟩
    have k8 := k7.trans (Mv.up k7.2.1 k7.2.2 u8)
    have e8 : H8 q = some (.lst xs) := k8.lst e1 nqp
    refine ⟨_, rfl, _, rfl, p, q, 2, 3, xs, rfl, k8.2.1, e8, nqp, x0, by omega, xo, by decide, by decide, fun b H9 b9 w9 hb => ?_⟩
    have k9 := k8.trans (Mv.but k8.2.1 k8.2.2 b9 w9)
    refine ⟨_, rfl, _, rfl, r1, rfl, by omega, b, _, rfl, hb, p6, by omega, k9.2.2, fun H10 u10 => ?_⟩
    exact k H10 (m1.trans (k9.trans (Mv.up k9.2.1 k9.2.2 u10)))
end
end KP

set_option Elab.async false
set_option maxRecDepth 100000
set_option maxHeartbeats 4000000
set_option linter.all false
/-! Ours: the law. -/
namespace KP
open PySem PySem.Spec PyProof.Rows L2 Gr GxR PM
theorem sql_stay {K : PySem.W.Frag} {H H' : Hp} {a : Addr} {xs : List V} (s : Stay H H') (h : SqL K H a xs) : SqL K H' a xs := by
  rcases h with (h | ⟨o, h⟩) | h
  · exact .inl (.inl (s _ _ h fun _ q => nomatch q))
  · exact .inl (.inr ⟨o, s _ _ h fun _ q => nomatch q⟩)
  · exact .inr h
theorem all_true : ∀ n, (List.replicate n true).all id = true
  | 0 => rfl
  | n + 1 => by
    rw [List.replicate_succ, List.all_cons, all_true n]
    rfl
def spLaw {K : PySem.W.Frag} {mg : Str → Option Value} (T : D K mg) : Sp := fun vs H Q _ => ∃ (a : Addr) (ns : List Int), vs = [.ref a] ∧ SqL K H a (ns.map V.int) ∧ ns.length ≤ 63 ∧ TT2 T H ∧ ∀ H', Q (.bl true) H'
section
variable {P : Program} {w : World} {K : PySem.W.Frag} {mg : Str → Option Value} {base : Heap}
theorem sc_law : FnScope ["_law_script", "_law_turn"] ["_law_script"] (defScope s_law) := ⟨rfl, rfl, rfl, by decide +kernel, rfl, by decide +kernel, by decide +kernel⟩
theorem ok_law (T : D K mg) (TB : Tabs base T) (hM : SysM K) : FnQ P w K mg base CX0 9 T.f_law T.d_law ["_law_script"] (spLaw T) := by
  refine funQ T.U_law sc_law (fun vs H Q E h => ?_) (fun cdv A outer s H vs Q E hgu hr h => ?_)
  · obtain ⟨a, ns, rfl, _⟩ := h
    rfl
  · obtain ⟨a, ns, rfl, hS, hl, hT, k⟩ := h
    have nd := sc_law.nd
    have GR : FnQ P w K mg base CX0 8 T.f_l_right T.d_l_right ["_law_well_here"] (spRight T) := ok_l_right T TB hM
    refine ⟨_, pss_one (ps_ret (pe_callB (cr_all rfl) (by rfl) T.all boot_all (pa_cons (pe_lc (own := [("_law_turn", 1)]) (g := gName 1) (tt := tYes) rfl nd (pi_range1 rfl T.range (pa_cons (pe_callB (call_max2 rfl) (by rfl) T.max boot_max (pa_cons pe_int (pa_cons (pe_callB (call_min2 rfl) (by rfl) T.min boot_min (pa_cons (pe_callB call_len_seq (by rfl) T.len PySem.boot_len (pa_cons (pv 0) pa_nil)) (pa_cons pe_int pa_nil))) pa_nil))) pa_nil)) (blkOk_by (N := ["_law_script", "_law_turn"]) (sc := defScope s_law) (by decide +kernel)) (fun _ _ _ _ _ => pg_name (i := 1) nd rfl (.inl rfl)) (fun _ _ _ _ _ => pts_nil) (fun _ _ _ _ _ => pe_callQ hgu GR hr rfl T.g_l_right T.U_l_right.kp T.b_l_right .nil pass0 (pa_cons (pe_call (ok_l_well T) (hr.mono (by decide)) rfl T.g_l_well T.U_l_well.kp T.b_l_well .nil pass0 (pa_cons (pv 0) (pa_cons (pv 1) pa_nil))) pa_nil))) pa_nil))), ?_⟩
    refine ⟨_, rfl, a, _, rfl, .inl hS, _, _, rfl, _, _, rfl, _, rfl, ?_, ?_, fun D hD => lc_range (n := _) (fun n H2 => Stay H H2 ∧ TT2 T H2 ∧ H2 D = some (.lst ((List.replicate n true).map V.bl))) ⟨.same (same_upd hD), hT.same (same_upd hD), upd_same⟩ ?_ ?_⟩
    · split <;> split <;> omega
    · split <;> split <;> omega
    · rintro n H2 hn ⟨s2, t2, hDn⟩
      refine ⟨wipe1, ?_⟩
      unfold tYes
      dsimp only
      rw [if_pos rfl]
      have hn6 : n < 63 := by
        refine Nat.lt_of_lt_of_le hn ?_
        split <;> split <;> omega
      refine ⟨_, rfl, _, rfl, a, ns, (n : Int), ?_, sql_stay s2 hS, by omega, by omega, fun q H3 hq hw s3 => ⟨q, rfl, hw, t2.same s3, fun H4 mv => ?_⟩⟩
      · rw [Int.zero_add]
        rfl
      · have s4 : Stay H2 H4 := fun b o e m => mv.1 b o (s3 b o e) (ne_of_none e hq) m
        refine ⟨_, s4 _ _ hDn (fun _ q => nomatch q), ?_, ?_, ?_, ?_⟩
        · rw [List.length_map, List.length_replicate, sizeLine_eq]
          omega
        · intro b o e m
          rw [upd_ne (ne_of_none e hD)]
          exact s4 _ _ (s2 _ _ e m) m
        · have nD : ∀ P : Addr, TabG H4 P → D ≠ P := fun P ⟨ps, e, _⟩ z => by
            rw [← z, s4 _ _ hDn (fun _ q => nomatch q)] at e
            cases e
          obtain ⟨⟨p1, e1, x1⟩, ⟨p2, e2, x2⟩⟩ := mv.2.2
          exact ⟨⟨p1, (upd_ne (Ne.symm (nD _ ⟨p1, e1, x1⟩))).trans e1, x1⟩, ⟨p2, (upd_ne (Ne.symm (nD _ ⟨p2, e2, x2⟩))).trans e2, x2⟩⟩
        · rw [upd_same, List.replicate_succ', List.map_append]
          rfl
    · rintro H2 ⟨s2, t2, hDn⟩
      refine ⟨D, _, rfl, SqL.of hDn, ?_⟩
      rw [all_true]
      exact k _
end
end KP

set_option Elab.async false
set_option maxRecDepth 100000
set_option maxHeartbeats 8000000
set_option linter.all false
namespace KP
open PySem PySem.Spec PyProof.Rows L2 Gr GxR PySem.W
/-! what is asked of the written part -/
def hasRef : Option Value → Addr → Bool
  | some (.ref a), q => a == q
  | _, _ => false
def isStrV : Value → Bool
  | .str _ _ => true
  | _ => false
def isIntV : Value → Bool
  | .int _ _ => true
  | _ => false
def isBoolV : Value → Bool
  | .bool _ => true
  | _ => false
def hdB (K : Frag) (c q : Addr) : Bool := match K.lookup c with
  | some ⟨.type n, _, .fields vs, _⟩ => n == "code" && (hasRef vs[11]? q && (isStrV (vs.getD 18 .none) && (isIntV (vs.getD 7 .none) && (isBoolV (vs.getD 9 .none) && isIntV (vs.getD 10 .none)))))
  | _ => false
theorem hdB_ok {K : Frag} {h : Heap} {c q : Addr} (X : K.In h) (n : c ≠ q) (e : hdB K c q = true) : CodeHd h c q := by
  unfold hdB at e
  split at e
  · rename_i nm od vs sl hk
    simp only [Bool.and_eq_true, beq_iff_eq] at e
    obtain ⟨rfl, e1, e2, e3, e4, e5⟩ := e
    have r : vs[11]? = some (.ref q) := by
      cases hv : vs[11]? with
      | none => rw [hv] at e1; cases e1
      | some v =>
        rw [hv] at e1
        cases v with
        | ref a =>
          have : (a == q) = true := e1
          rw [beq_iff_eq.mp this]
        | _ => cases e1
    have r2 : vs.getD 11 .none = .ref q := by rw [Array.getD_eq_getD_getElem?, r]; rfl
    generalize h18 : vs.getD 18 .none = v18 at e2
    generalize h7 : vs.getD 7 .none = v7 at e3
    generalize h9 : vs.getD 9 .none = v9 at e4
    generalize h10 : vs.getD 10 .none = v10 at e5
    cases v18 <;> first | cases e2 | skip
    cases v7 <;> first | cases e3 | skip
    cases v9 <;> first | cases e4 | skip
    cases v10 <;> first | cases e5 | skip
    exact ⟨_, vs, _, _, _, _, _, _, _, X _ _ hk, rfl, rfl, r, r2, h18, h7, h9, h10, n⟩
  · cases e
theorem rangeOf {k : Nat} {t : Nat → Bool} (h : (List.range k).all t = true) {n : Nat} (hn : n < k) : t n = true := List.all_eq_true.mp h n (List.mem_range.mpr hn)
def bis : List Str := ("abs" : Str) :: ("all" : Str) :: ("divmod" : Str) :: ("enumerate" : Str) :: ("int" : Str) :: ("isinstance" : Str) :: ("len" : Str) :: ("list" : Str) :: ("max" : Str) :: ("min" : Str) :: ("range" : Str) :: ("repr" : Str) :: ("sorted" : Str) :: ("str" : Str) :: ("sum" : Str) :: ("tuple" : Str) :: ("zip" : Str) :: []
def chkN (K : Frag) : Bool := (List.range 17).all fun n => decide (nsIn K mainGlobals (bis.getD n "") = some none)
theorem nameN {K : Frag} {h : Heap} {mg : Str → Option Value} (X : K.In h) (G : h.Ns mainGlobals mg) (c : chkN K = true) (n : Nat) (hn : n < 17) : mg (bis.getD n "") = none := mg_none_of X G (of_decide_eq_true (rangeOf c hn))
def fnm : List Str := ("is_path" : Str) :: ("check_path" : Str) :: ("is_pattern" : Str) :: ("check_pattern" : Str) :: ("body_of" : Str) :: ("places" : Str) :: ("next_places" : Str) :: ("meets" : Str) :: ("_law_well" : Str) :: ("_law_pick" : Str) :: ("_law_one" : Str) :: ("_law_signs" : Str) :: ("_law_alphabet" : Str) :: ("_law_body" : Str) :: ("_law_fits" : Str) :: ("_law_some_pattern" : Str) :: ("_law_some_path" : Str) :: ("_law_due_places" : Str) :: ("_law_walk_right" : Str) :: ("_law_right" : Str) :: ("law" : Str) :: []
def fad : List Addr := [72, 79, 157, 164, 171, 178, 185, 192, 199, 206, 213, 220, 225, 232, 239, 246, 253, 258, 263, 270, 275]
def chkF (K : Frag) : Bool := (List.range 21).all fun n => decide (nsIn K mainGlobals (fnm.getD n "") = some (some (.ref (fad.getD n 0)))) && keepIn K (.ref (fad.getD n 0))
theorem nameF {K : Frag} {h : Heap} {mg : Str → Option Value} (X : K.In h) (G : h.Ns mainGlobals mg) (c : chkF K = true) (n : Nat) (hn : n < 21) : mg (fnm.getD n "") = some (.ref (fad.getD n 0)) ∧ keepIn K (.ref (fad.getD n 0)) = true := by
  have q := rangeOf c hn
  simp only [Bool.and_eq_true, decide_eq_true_eq] at q
  exact ⟨mg_of X G q.1, q.2⟩
def chkS (K : Frag) : Bool := match K.lookup sysModules with
  | some ⟨_, _, .dict _ _, _⟩ => true
  | _ => false
theorem sysM_of {K : Frag} (h : chkS K = true) : SysM K := by
  unfold chkS at h
  split at h
  · rename_i es n _ q
    exact ⟨_, es, n, q, rfl⟩
  · cases h
def chkMachine (K : Frag) : Bool := plainGet K 146 Str.empty && (hasDictIn K 146 && (plainOver K 146 && (decide (findIn K (.ref 146) "__setattr__" = some (some (.builtin "object.__setattr__"))) && (decide (nsIn K mainGlobals "Machine" = some (some (.ref 146))) && (makesIn K 146 && (decide (findIn K (.ref 146) "__init__" = some (some (.ref 93))) && keepIn K (.ref 146)))))))
def fldMachine : List Str := ("bodies" : Str) :: ("ends" : Str) :: ("held" : Str) :: ("moves" : Str) :: ("signs" : Str) :: ("stars" : Str) :: ("starts" : Str) :: []
def chkAMachine (K : Frag) : Bool := (List.range 7).all fun n => decide (findIn K (.ref 146) (fldMachine.getD n "") = some none)
theorem noAMachine {K : Frag} (c : chkAMachine K = true) (n : Nat) (hn : n < 7) : findIn K (.ref 146) (fldMachine.getD n "") = some none := of_decide_eq_true (rangeOf c hn)
def metMachine : List Str := ("__init__" : Str) :: ("_take" : Str) :: ("_telling_signs" : Str) :: ("_closed" : Str) :: ("step" : Str) :: ("begun" : Str) :: ("behind" : Str) :: ("places_of" : Str) :: ("standing_of" : Str) :: []
def madMachine : List Addr := [93, 100, 105, 112, 119, 124, 131, 136, 143]
def chkMMachine (K : Frag) : Bool := (List.range 9).all fun n => decide (findIn K (.ref 146) (metMachine.getD n "") = some (some (.ref (madMachine.getD n 0)))) && (isFn K (.ref (madMachine.getD n 0)) && keepIn K (.ref (madMachine.getD n 0)))
theorem methMachine {K : Frag} (c : chkMMachine K = true) (n : Nat) (hn : n < 9) : Meth K 146 (metMachine.getD n "") (madMachine.getD n 0) := by
  have q := rangeOf c hn
  simp only [Bool.and_eq_true, decide_eq_true_eq] at q
  exact ⟨q.1, q.2.1, q.2.2⟩
theorem fun_mkS {K K0 : Frag} {x qual : Str} {st : Stmt} {f : Addr} {oc : Value} {od an : Option Addr} {osl : Array (Option Value)} {kV doc pm cdv ct : Value} (hK : ∀ b, b ≠ sysModules → K.lookup b = K0.lookup b) (ne : f ≠ sysModules)
    (l : K0.lookup f = some ⟨oc, od, .func (fnOf x qual (defArgs st) (defBody st) (defScope st) .none kV doc pm an cdv ct), osl⟩) (c : codeIn K cdv qual = true) : ∃ fd, keepIn K (.ref f) = true → Fun K x qual st f fd :=
  ⟨_, fun k => fun_mk ((hK _ ne).trans l) c k⟩
theorem fun_mkC {K K0 : Frag} {x qual : Str} {st : Stmt} {f c : Addr} {oc : Value} {od an : Option Addr} {osl : Array (Option Value)} {kV doc pm ct : Value} (hK : ∀ b, b ≠ sysModules → K.lookup b = K0.lookup b) (ne : f ≠ sysModules)
    (l : K0.lookup f = some ⟨oc, od, .func (fnOf x qual (defArgs st) (defBody st) (defScope st) .none kV doc pm an (.ref c) ct), osl⟩) (cc : codeIn K (.ref c) qual = true) : ∃ fd, keepIn K (.ref f) = true → FunC K x qual st f fd c :=
  ⟨_, fun k => ⟨⟨oc, od, kV, doc, pm, an, ct, osl, rfl, (hK _ ne).trans l, cc⟩, k⟩⟩
def chkInt (K : Frag) (x : Str) (n : Int) : Bool := match nsIn K mainGlobals x with
  | some (some (.int m _)) => m == n
  | _ => false
def chkStr (K : Frag) (x : Str) (n : Str) : Bool := match nsIn K mainGlobals x with
  | some (some (.str m _)) => m == n
  | _ => false
theorem int_of {K : Frag} {x : Str} {n : Int} (h : chkInt K x n = true) : ∃ t, nsIn K mainGlobals x = some (some (.int n t)) := by
  unfold chkInt at h
  split at h
  · rename_i m t q
    exact ⟨t, by rw [q, beq_iff_eq.mp h]⟩
  · cases h
theorem str_of {K : Frag} {x : Str} {n : Str} (h : chkStr K x n = true) : ∃ t, nsIn K mainGlobals x = some (some (.str n t)) := by
  unfold chkStr at h
  split at h
  · rename_i m t q
    exact ⟨t, by rw [q, beq_iff_eq.mp h]⟩
  · cases h
/-- all that is asked of the written part -/
structure Facts (K : Frag) : Prop where
  n : chkN K = true
  f : chkF K = true
  s : chkS K = true
  cMachine : chkMachine K = true
  aMachine : chkAMachine K = true
  mMachine : chkMMachine K = true
  k0 : chkStr K "SIGNS" "-./0123456789_abcdefghijklmnopqrstuvwxyz" = true
  k1 : chkInt K "LONGEST_PATTERN" 12 = true
  d0 : ∃ fd, keepIn K (.ref 72) = true → FunC K "is_path" "is_path" s_is_path 72 fd 71
  t0 : hdB K 71 67 = true
  o0 : (K.lookup 67).isNone = true
  d1 : ∃ fd, keepIn K (.ref 79) = true → Fun K "check_path" "check_path" s_check_path 79 fd
  d2 : ∃ fd, keepIn K (.ref 93) = true → Fun K "__init__" "Machine.__init__" s_init 93 fd
  d3 : ∃ fd, keepIn K (.ref 100) = true → Fun K "_take" "Machine._take" s__take 100 fd
  d4 : ∃ fd, keepIn K (.ref 105) = true → Fun K "_telling_signs" "Machine._telling_signs" s__telling_signs 105 fd
  d5 : ∃ fd, keepIn K (.ref 112) = true → Fun K "_closed" "Machine._closed" s__closed 112 fd
  d6 : ∃ fd, keepIn K (.ref 119) = true → Fun K "step" "Machine.step" s_step 119 fd
  d7 : ∃ fd, keepIn K (.ref 124) = true → Fun K "begun" "Machine.begun" s_begun 124 fd
  d8 : ∃ fd, keepIn K (.ref 131) = true → Fun K "behind" "Machine.behind" s_behind 131 fd
  d9 : ∃ fd, keepIn K (.ref 136) = true → Fun K "places_of" "Machine.places_of" s_places_of 136 fd
  d10 : ∃ fd, keepIn K (.ref 143) = true → Fun K "standing_of" "Machine.standing_of" s_standing_of 143 fd
  d11 : ∃ fd, keepIn K (.ref 157) = true → FunC K "is_pattern" "is_pattern" s_is_pattern 157 fd 156
  t11 : hdB K 156 152 = true
  o11 : (K.lookup 152).isNone = true
  d12 : ∃ fd, keepIn K (.ref 164) = true → Fun K "check_pattern" "check_pattern" s_check_pattern 164 fd
  d13 : ∃ fd, keepIn K (.ref 171) = true → Fun K "body_of" "body_of" s_body_of 171 fd
  d14 : ∃ fd, keepIn K (.ref 178) = true → Fun K "places" "places" s_places 178 fd
  d15 : ∃ fd, keepIn K (.ref 185) = true → Fun K "next_places" "next_places" s_next_places 185 fd
  d16 : ∃ fd, keepIn K (.ref 192) = true → Fun K "meets" "meets" s_meets 192 fd
  d17 : ∃ fd, keepIn K (.ref 199) = true → Fun K "_law_well" "_law_well" s_l_well 199 fd
  d18 : ∃ fd, keepIn K (.ref 206) = true → Fun K "_law_pick" "_law_pick" s_l_pick 206 fd
  d19 : ∃ fd, keepIn K (.ref 213) = true → Fun K "_law_one" "_law_one" s_l_one 213 fd
  d20 : ∃ fd, keepIn K (.ref 220) = true → Fun K "_law_signs" "_law_signs" s_l_signs 220 fd
  d21 : ∃ fd, keepIn K (.ref 225) = true → Fun K "_law_alphabet" "_law_alphabet" s_l_alphabet 225 fd
  d22 : ∃ fd, keepIn K (.ref 232) = true → Fun K "_law_body" "_law_body" s_l_body 232 fd
  d23 : ∃ fd, keepIn K (.ref 239) = true → Fun K "_law_fits" "_law_fits" s_l_fits 239 fd
  d24 : ∃ fd, keepIn K (.ref 246) = true → Fun K "_law_some_pattern" "_law_some_pattern" s_l_some_pattern 246 fd
  d25 : ∃ fd, keepIn K (.ref 253) = true → Fun K "_law_some_path" "_law_some_path" s_l_some_path 253 fd
  d26 : ∃ fd, keepIn K (.ref 258) = true → Fun K "_law_due_places" "_law_due_places" s_l_due_places 258 fd
  d27 : ∃ fd, keepIn K (.ref 263) = true → Fun K "_law_walk_right" "_law_walk_right" s_l_walk_right 263 fd
  d28 : ∃ fd, keepIn K (.ref 270) = true → Fun K "_law_right" "_law_right" s_l_right 270 fd
  d29 : ∃ fd, keepIn K (.ref 275) = true → Fun K "law" "law" s_law 275 fd
theorem all_ok {P : Program} {w : World} {K : Frag} {h : Heap} {mg : Str → Option Value} {fa : Addr} (Z : Facts K) (X : K.In h) (G : h.Ns mainGlobals mg) (hfa : mg "law" = some (.ref fa)) (h67 : h.get? 67 = some (tabO #[])) (h152 : h.get? 152 = some (tabO #[])) :
    ∃ (fd : FuncData) (cs : List (Addr × Addr)) (sp : Sp), (∀ p ∈ cs, h.get? p.2 = some (tabO #[])) ∧ (∀ p ∈ cs, K.lookup p.2 = none) ∧ (∀ p ∈ cs, CodeHd h p.1 p.2) ∧ (∀ (s : Shared) (u : Value), BindsTo s fd ⟨[u], []⟩ [("_law_script", u)]) ∧
      (∀ (H : Hp) (a : Addr) (ns : List Int), ns.length ≤ 63 → (∀ p ∈ cs, H p.2 = some (.tbl #[])) → SqL K H a (ns.map V.int) → sp [.ref a] H (fun v _ => v = .bl true) fun _ _ _ => False) ∧
      ∀ base : Heap, K.In base → base.Ns mainGlobals mg → (∀ p ∈ cs, TabB base mg p.1 p.2) → FnQ P w K mg base CX0 9 fa fd ["_law_script"] sp := by
  have nf := nameF X G Z.f
  have nn := nameN X G Z.n
  have e := hfa.symm.trans (nf 20 (by decide)).1
  cases e
  obtain ⟨z0, u0⟩ := Z.d0
  have u0 := u0 (nf 0 (by decide)).2
  obtain ⟨z1, u1⟩ := Z.d1
  have u1 := u1 (nf 1 (by decide)).2
  obtain ⟨z2, u2⟩ := Z.d2
  obtain ⟨z3, u3⟩ := Z.d3
  obtain ⟨z4, u4⟩ := Z.d4
  obtain ⟨z5, u5⟩ := Z.d5
  obtain ⟨z6, u6⟩ := Z.d6
  obtain ⟨z7, u7⟩ := Z.d7
  obtain ⟨z8, u8⟩ := Z.d8
  obtain ⟨z9, u9⟩ := Z.d9
  obtain ⟨z10, u10⟩ := Z.d10
  obtain ⟨z11, u11⟩ := Z.d11
  have u11 := u11 (nf 2 (by decide)).2
  obtain ⟨z12, u12⟩ := Z.d12
  have u12 := u12 (nf 3 (by decide)).2
  obtain ⟨z13, u13⟩ := Z.d13
  have u13 := u13 (nf 4 (by decide)).2
  obtain ⟨z14, u14⟩ := Z.d14
  have u14 := u14 (nf 5 (by decide)).2
  obtain ⟨z15, u15⟩ := Z.d15
  have u15 := u15 (nf 6 (by decide)).2
  obtain ⟨z16, u16⟩ := Z.d16
  have u16 := u16 (nf 7 (by decide)).2
  obtain ⟨z17, u17⟩ := Z.d17
  have u17 := u17 (nf 8 (by decide)).2
  obtain ⟨z18, u18⟩ := Z.d18
  have u18 := u18 (nf 9 (by decide)).2
  obtain ⟨z19, u19⟩ := Z.d19
  have u19 := u19 (nf 10 (by decide)).2
  obtain ⟨z20, u20⟩ := Z.d20
  have u20 := u20 (nf 11 (by decide)).2
  obtain ⟨z21, u21⟩ := Z.d21
  have u21 := u21 (nf 12 (by decide)).2
  obtain ⟨z22, u22⟩ := Z.d22
  have u22 := u22 (nf 13 (by decide)).2
  obtain ⟨z23, u23⟩ := Z.d23
  have u23 := u23 (nf 14 (by decide)).2
  obtain ⟨z24, u24⟩ := Z.d24
  have u24 := u24 (nf 15 (by decide)).2
  obtain ⟨z25, u25⟩ := Z.d25
  have u25 := u25 (nf 16 (by decide)).2
  obtain ⟨z26, u26⟩ := Z.d26
  have u26 := u26 (nf 17 (by decide)).2
  obtain ⟨z27, u27⟩ := Z.d27
  have u27 := u27 (nf 18 (by decide)).2
  obtain ⟨z28, u28⟩ := Z.d28
  have u28 := u28 (nf 19 (by decide)).2
  obtain ⟨z29, u29⟩ := Z.d29
  have u29 := u29 (nf 20 (by decide)).2
  have qMachine := Z.cMachine
  unfold chkMachine at qMachine
  simp only [Bool.and_eq_true, decide_eq_true_eq] at qMachine
  obtain ⟨r1, r2, r3, r4, r5, r6, r7, r8⟩ := qMachine
  have u2 := u2 (methMachine Z.mMachine 0 (by decide)).kp
  have u3 := u3 (methMachine Z.mMachine 1 (by decide)).kp
  have u4 := u4 (methMachine Z.mMachine 2 (by decide)).kp
  have u5 := u5 (methMachine Z.mMachine 3 (by decide)).kp
  have u6 := u6 (methMachine Z.mMachine 4 (by decide)).kp
  have u7 := u7 (methMachine Z.mMachine 5 (by decide)).kp
  have u8 := u8 (methMachine Z.mMachine 6 (by decide)).kp
  have u9 := u9 (methMachine Z.mMachine 7 (by decide)).kp
  have u10 := u10 (methMachine Z.mMachine 8 (by decide)).kp
  obtain ⟨w0, y0⟩ := str_of Z.k0
  obtain ⟨w1, y1⟩ := int_of Z.k1
  let T : D K mg :=
   {
    f_is_path := 72,
    d_is_path := z0,
    c_is_path := 71,
    P_is_path := 67,
    V_is_path := u0,
    g_is_path := (nf 0 (by decide)).1,
    f_check_path := 79,
    d_check_path := z1,
    U_check_path := u1,
    g_check_path := (nf 1 (by decide)).1,
    f_init := 93,
    d_init := z2,
    U_init := u2,
    f__take := 100,
    d__take := z3,
    U__take := u3,
    f__telling_signs := 105,
    d__telling_signs := z4,
    U__telling_signs := u4,
    f__closed := 112,
    d__closed := z5,
    U__closed := u5,
    f_step := 119,
    d_step := z6,
    U_step := u6,
    f_begun := 124,
    d_begun := z7,
    U_begun := u7,
    f_behind := 131,
    d_behind := z8,
    U_behind := u8,
    f_places_of := 136,
    d_places_of := z9,
    U_places_of := u9,
    f_standing_of := 143,
    d_standing_of := z10,
    U_standing_of := u10,
    f_is_pattern := 157,
    d_is_pattern := z11,
    c_is_pattern := 156,
    P_is_pattern := 152,
    V_is_pattern := u11,
    g_is_pattern := (nf 2 (by decide)).1,
    f_check_pattern := 164,
    d_check_pattern := z12,
    U_check_pattern := u12,
    g_check_pattern := (nf 3 (by decide)).1,
    f_body_of := 171,
    d_body_of := z13,
    U_body_of := u13,
    g_body_of := (nf 4 (by decide)).1,
    f_places := 178,
    d_places := z14,
    U_places := u14,
    g_places := (nf 5 (by decide)).1,
    f_next_places := 185,
    d_next_places := z15,
    U_next_places := u15,
    g_next_places := (nf 6 (by decide)).1,
    f_meets := 192,
    d_meets := z16,
    U_meets := u16,
    g_meets := (nf 7 (by decide)).1,
    f_l_well := 199,
    d_l_well := z17,
    U_l_well := u17,
    g_l_well := (nf 8 (by decide)).1,
    f_l_pick := 206,
    d_l_pick := z18,
    U_l_pick := u18,
    g_l_pick := (nf 9 (by decide)).1,
    f_l_one := 213,
    d_l_one := z19,
    U_l_one := u19,
    g_l_one := (nf 10 (by decide)).1,
    f_l_signs := 220,
    d_l_signs := z20,
    U_l_signs := u20,
    g_l_signs := (nf 11 (by decide)).1,
    f_l_alphabet := 225,
    d_l_alphabet := z21,
    U_l_alphabet := u21,
    g_l_alphabet := (nf 12 (by decide)).1,
    f_l_body := 232,
    d_l_body := z22,
    U_l_body := u22,
    g_l_body := (nf 13 (by decide)).1,
    f_l_fits := 239,
    d_l_fits := z23,
    U_l_fits := u23,
    g_l_fits := (nf 14 (by decide)).1,
    f_l_some_pattern := 246,
    d_l_some_pattern := z24,
    U_l_some_pattern := u24,
    g_l_some_pattern := (nf 15 (by decide)).1,
    f_l_some_path := 253,
    d_l_some_path := z25,
    U_l_some_path := u25,
    g_l_some_path := (nf 16 (by decide)).1,
    f_l_due_places := 258,
    d_l_due_places := z26,
    U_l_due_places := u26,
    g_l_due_places := (nf 17 (by decide)).1,
    f_l_walk_right := 263,
    d_l_walk_right := z27,
    U_l_walk_right := u27,
    g_l_walk_right := (nf 18 (by decide)).1,
    f_l_right := 270,
    d_l_right := z28,
    U_l_right := u28,
    g_l_right := (nf 19 (by decide)).1,
    f_law := 275,
    d_law := z29,
    U_law := u29,
    g_law := (nf 20 (by decide)).1,
    C_Machine := 146,
    cl_Machine := ⟨r1, r2, r3, r4⟩,
    g_Machine := mg_of X G r5,
    mk_Machine := ⟨r6, r7, (methMachine Z.mMachine 0 (by decide)).fn, r8⟩,
    n_bodies := noAMachine Z.aMachine 0 (by decide),
    n_ends := noAMachine Z.aMachine 1 (by decide),
    n_held := noAMachine Z.aMachine 2 (by decide),
    n_moves := noAMachine Z.aMachine 3 (by decide),
    n_signs := noAMachine Z.aMachine 4 (by decide),
    n_stars := noAMachine Z.aMachine 5 (by decide),
    n_starts := noAMachine Z.aMachine 6 (by decide),
    M__take := methMachine Z.mMachine 1 (by decide),
    M__telling_signs := methMachine Z.mMachine 2 (by decide),
    M__closed := methMachine Z.mMachine 3 (by decide),
    M_step := methMachine Z.mMachine 4 (by decide),
    M_begun := methMachine Z.mMachine 5 (by decide),
    M_behind := methMachine Z.mMachine 6 (by decide),
    M_places_of := methMachine Z.mMachine 7 (by decide),
    M_standing_of := methMachine Z.mMachine 8 (by decide),
    t_SIGNS := w0,
    g_SIGNS := mg_of X G y0,
    t_LONGEST_PATTERN := w1,
    g_LONGEST_PATTERN := mg_of X G y1,
    abs := nn 0 (by decide),
    all := nn 1 (by decide),
    divmod := nn 2 (by decide),
    enumerate := nn 3 (by decide),
    int := nn 4 (by decide),
    isinstance := nn 5 (by decide),
    len := nn 6 (by decide),
    list := nn 7 (by decide),
    max := nn 8 (by decide),
    min := nn 9 (by decide),
    range := nn 10 (by decide),
    repr := nn 11 (by decide),
    sorted := nn 12 (by decide),
    str := nn 13 (by decide),
    sum := nn 14 (by decide),
    tuple := nn 15 (by decide),
    zip := nn 16 (by decide) }
  refine ⟨T.d_law, [(71, 67), (156, 152)], spLaw T, ?_, ?_, ?_, ?_, ?_, fun base _ _ TB => ok_law T ⟨TB (71, 67) (by simp), TB (156, 152) (by simp)⟩ (sysM_of Z.s)⟩
  · intro p hp
    simp only [List.mem_cons, List.not_mem_nil, or_false] at hp
    rcases hp with rfl | rfl
    · exact h67
    · exact h152
  · intro p hp
    simp only [List.mem_cons, List.not_mem_nil, or_false] at hp
    rcases hp with rfl | rfl
    · exact Option.isNone_iff_eq_none.mp Z.o0
    · exact Option.isNone_iff_eq_none.mp Z.o11
  · intro p hp
    simp only [List.mem_cons, List.not_mem_nil, or_false] at hp
    rcases hp with rfl | rfl
    · exact hdB_ok X (by decide) Z.t0
    · exact hdB_ok X (by decide) Z.t11
  · obtain ⟨oc, od, kV, doc, pm, an, cdv, ct, osl, e, _⟩ := T.U_law.ex
    rw [e]
    exact fun s u => .of_eq rfl
  · intro H a ns hl hT hS
    refine ⟨a, ns, rfl, hS, hl, ⟨⟨#[], hT (71, 67) (by simp), by simp [TriplesOk]⟩, ⟨#[], hT (156, 152) (by simp), by simp [TriplesOk]⟩⟩, fun _ => rfl⟩
end KP

set_option Elab.async false
set_option maxRecDepth 100000
set_option maxHeartbeats 8000000
set_option linter.all false
namespace KP
open PySem PySem.Spec PyProof.Rows L2 Gr PySem.W
/-! the head: beside the written part the table of the modules is looked at, and the tables of the code objects that make generators -/
noncomputable def sysO (P : Params) : Obj := ((boot_heap P).get? sysModules).getD default
noncomputable def withSys (K : Params → Frag) (P : Params) : Frag := (sysModules, sysO P) :: K P
theorem lookup_withSys {K : Params → Frag} {P : Params} (b : Addr) (h : b ≠ sysModules) : (withSys K P).lookup b = (K P).lookup b := by
  unfold withSys
  rw [List.lookup_cons, beq_eq_false_iff_ne.mpr h]
noncomputable def withTabs (K : Params → Frag) (P : Params) : Frag := (67, tabO #[]) :: (152, tabO #[]) :: withSys K P
theorem tabE {K : Params → Frag} {as : List Addr} (e : ∀ P, as = (K P).map (·.1)) (P : Params) : 67 :: 152 :: sysModules :: as = (withTabs K P).map (·.1) := congrArg (fun l => 67 :: 152 :: sysModules :: l) (e P)
theorem tabs_in {K : Params → Frag} {P : Params} {h : Heap} (X : (withTabs K P).In h) (o67 : ((withSys K P).lookup 67).isNone = true) (o152 : ((withSys K P).lookup 152).isNone = true) : (withSys K P).In h ∧ h.get? 67 = some (tabO #[]) ∧ h.get? 152 = some (tabO #[]) := by
  refine ⟨fun b o e => X b o ?_, X 67 _ (by rfl), X 152 _ (by rfl)⟩
  have n67 : b ≠ 67 := fun q => by
    rw [q, Option.isNone_iff_eq_none.mp o67] at e
    cases e
  have n152 : b ≠ 152 := fun q => by
    rw [q, Option.isNone_iff_eq_none.mp o152] at e
    cases e
  unfold withTabs
  rw [List.lookup_cons, beq_eq_false_iff_ne.mpr n67]
  rw [List.lookup_cons, beq_eq_false_iff_ne.mpr n152]
  exact e
end KP
open PySem PySem.W PyProof.Rows
local macro_rules
  | `(tactic| o_headL ($_ $K $as $p)) => `(tactic| o_headL PySem.W.kHook (KP.withTabs $K) (67 :: 152 :: PySem.sysModules :: $as) (KP.tabE (K := $K) (as := $as) $p))
set_option maxHeartbeats 0 in
theorem PySem.Challenge.cw_gentlerounds_k04_whole_places_tell_how_t_holds : PySem.Challenge.rw_gentlerounds_k04_whole_places_tell_how_t.Holds := by
  w_on; o_law; k_headL; (case hw => w_witness2)
  k_fill
  refine Gr.walk_ofQT (l := PySem.Challenge.rw_gentlerounds_k04_whole_places_tell_how_t) (n := 63) (k := 9) (x := "_law_script") (K := KP.withSys _) rfl (by decide) rfl ⟨rfl, by decide, by decide⟩ (fun w h Y => (KP.tabs_in (PySem.W.kIn_of Y) (by kernel_rfl) (by kernel_rfl)).1) ?F
  case F => as_aux_lemma =>
    intro w mg fa h Y KX G hmg
    have Q := KP.tabs_in (PySem.W.kIn_of Y) (by kernel_rfl) (by kernel_rfl)
    refine' KP.all_ok (KP.Facts.mk ?n ?f ?s ?cMachine ?aMachine ?mMachine ?k0 ?k1 ?d0 ?t0 ?o0 ?d1 ?d2 ?d3 ?d4 ?d5 ?d6 ?d7 ?d8 ?d9 ?d10 ?d11 ?t11 ?o11 ?d12 ?d13 ?d14 ?d15 ?d16 ?d17 ?d18 ?d19 ?d20 ?d21 ?d22 ?d23 ?d24 ?d25 ?d26 ?d27 ?d28 ?d29) KX G hmg Q.2.1 Q.2.2
    (case n => as_aux_lemma => kernel_rfl)
    (case f => as_aux_lemma => kernel_rfl)
    (case s => as_aux_lemma => kernel_rfl)
    (case cMachine => as_aux_lemma => kernel_rfl)
    (case aMachine => as_aux_lemma => kernel_rfl)
    (case mMachine => as_aux_lemma => kernel_rfl)
    (case k0 => as_aux_lemma => kernel_rfl)
    (case k1 => as_aux_lemma => kernel_rfl)
    (case d0 => (refine' KP.fun_mkC (f := 72) KP.lookup_withSys (by decide) ?l ?c; (case l => k_is); (case c => kernel_rfl)))
    (case t0 => as_aux_lemma => kernel_rfl)
    (case o0 => as_aux_lemma => kernel_rfl)
    (case d1 => (refine' KP.fun_mkS (f := 79) KP.lookup_withSys (by decide) ?l ?c; (case l => k_is); (case c => kernel_rfl)))
    (case d2 => (refine' KP.fun_mkS (f := 93) KP.lookup_withSys (by decide) ?l ?c; (case l => k_is); (case c => kernel_rfl)))
    (case d3 => (refine' KP.fun_mkS (f := 100) KP.lookup_withSys (by decide) ?l ?c; (case l => k_is); (case c => kernel_rfl)))
    (case d4 => (refine' KP.fun_mkS (f := 105) KP.lookup_withSys (by decide) ?l ?c; (case l => k_is); (case c => kernel_rfl)))
    (case d5 => (refine' KP.fun_mkS (f := 112) KP.lookup_withSys (by decide) ?l ?c; (case l => k_is); (case c => kernel_rfl)))
    (case d6 => (refine' KP.fun_mkS (f := 119) KP.lookup_withSys (by decide) ?l ?c; (case l => k_is); (case c => kernel_rfl)))
    (case d7 => (refine' KP.fun_mkS (f := 124) KP.lookup_withSys (by decide) ?l ?c; (case l => k_is); (case c => kernel_rfl)))
    (case d8 => (refine' KP.fun_mkS (f := 131) KP.lookup_withSys (by decide) ?l ?c; (case l => k_is); (case c => kernel_rfl)))
    (case d9 => (refine' KP.fun_mkS (f := 136) KP.lookup_withSys (by decide) ?l ?c; (case l => k_is); (case c => kernel_rfl)))
    (case d10 => (refine' KP.fun_mkS (f := 143) KP.lookup_withSys (by decide) ?l ?c; (case l => k_is); (case c => kernel_rfl)))
    (case d11 => (refine' KP.fun_mkC (f := 157) KP.lookup_withSys (by decide) ?l ?c; (case l => k_is); (case c => kernel_rfl)))
    (case t11 => as_aux_lemma => kernel_rfl)
    (case o11 => as_aux_lemma => kernel_rfl)
    (case d12 => (refine' KP.fun_mkS (f := 164) KP.lookup_withSys (by decide) ?l ?c; (case l => k_is); (case c => kernel_rfl)))
    (case d13 => (refine' KP.fun_mkS (f := 171) KP.lookup_withSys (by decide) ?l ?c; (case l => k_is); (case c => kernel_rfl)))
    (case d14 => (refine' KP.fun_mkS (f := 178) KP.lookup_withSys (by decide) ?l ?c; (case l => k_is); (case c => kernel_rfl)))
    (case d15 => (refine' KP.fun_mkS (f := 185) KP.lookup_withSys (by decide) ?l ?c; (case l => k_is); (case c => kernel_rfl)))
    (case d16 => (refine' KP.fun_mkS (f := 192) KP.lookup_withSys (by decide) ?l ?c; (case l => k_is); (case c => kernel_rfl)))
    (case d17 => (refine' KP.fun_mkS (f := 199) KP.lookup_withSys (by decide) ?l ?c; (case l => k_is); (case c => kernel_rfl)))
    (case d18 => (refine' KP.fun_mkS (f := 206) KP.lookup_withSys (by decide) ?l ?c; (case l => k_is); (case c => kernel_rfl)))
    (case d19 => (refine' KP.fun_mkS (f := 213) KP.lookup_withSys (by decide) ?l ?c; (case l => k_is); (case c => kernel_rfl)))
    (case d20 => (refine' KP.fun_mkS (f := 220) KP.lookup_withSys (by decide) ?l ?c; (case l => k_is); (case c => kernel_rfl)))
    (case d21 => (refine' KP.fun_mkS (f := 225) KP.lookup_withSys (by decide) ?l ?c; (case l => k_is); (case c => kernel_rfl)))
    (case d22 => (refine' KP.fun_mkS (f := 232) KP.lookup_withSys (by decide) ?l ?c; (case l => k_is); (case c => kernel_rfl)))
    (case d23 => (refine' KP.fun_mkS (f := 239) KP.lookup_withSys (by decide) ?l ?c; (case l => k_is); (case c => kernel_rfl)))
    (case d24 => (refine' KP.fun_mkS (f := 246) KP.lookup_withSys (by decide) ?l ?c; (case l => k_is); (case c => kernel_rfl)))
    (case d25 => (refine' KP.fun_mkS (f := 253) KP.lookup_withSys (by decide) ?l ?c; (case l => k_is); (case c => kernel_rfl)))
    (case d26 => (refine' KP.fun_mkS (f := 258) KP.lookup_withSys (by decide) ?l ?c; (case l => k_is); (case c => kernel_rfl)))
    (case d27 => (refine' KP.fun_mkS (f := 263) KP.lookup_withSys (by decide) ?l ?c; (case l => k_is); (case c => kernel_rfl)))
    (case d28 => (refine' KP.fun_mkS (f := 270) KP.lookup_withSys (by decide) ?l ?c; (case l => k_is); (case c => kernel_rfl)))
    (case d29 => (refine' KP.fun_mkS (f := 275) KP.lookup_withSys (by decide) ?l ?c; (case l => k_is); (case c => kernel_rfl)))

