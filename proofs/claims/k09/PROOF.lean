import PyProof.Rows.All
import Wide.All
import OpenK.AllK
import Wide.FinOn
import KE.DatumIndex
import HandS.ForMost
import HandS.ForExc
import HandS.ExcInit
import HandS.ExcIs
import HandS.ExcField
import HandS.IsInst
import HandS.Wide
import HandS.WideBits
import HandS.AnyAll
import HandS.Walk
import HandS.Conv
import HandS.TupAny
import KE.GoesEnumKw
import HandS.Zip
import HandS.TupLe
import HandS.ListEq
import HandS.Comp
import HandS.EndTab
import KE.DataIsa
import HandS.StrMore
import HandS.Dict
import HandS.SortKw
import KE.DataMinMax
import KE.KTupSum
import HandS.TupMul
import PySem.Challenge.RW_gentlerounds_k09_limits_hours_and_rows_o
import HandS.Flow
import KE.OsRunLaw
set_option Elab.async false
set_option maxRecDepth 100000
set_option maxHeartbeats 4000000
set_option linter.all false
/-! Ours: defs that are entered where no repr is under way (FnQ), their calls and bodies; repr of data. -/
namespace Gr
open PySem PySem.Spec PyProof.Rows L2

/-- a def's promise, for calls where no repr is under way -/
structure FnQ (P : Program) (w : World) (K : PySem.W.Frag) (mg : Str → Option Value) (base : Heap) (CX : CXT) (k : Nat)
    (f : Addr) (fd : FuncData) (ps : List Str) (sp : Sp) : Prop where
  len : ∀ vs H Q E, sp vs H Q E → vs.length = ps.length
  run : ∀ (A : Around) (outer : List Env) (s : Shared) (H : Hp) (args : Args) (us : List Value) (vs : List V) (Q : VK) (E : XK),
    A.guards = some [] → Room k A → Env0 P w K mg base A outer s H → BindsTo s fd args (ps.zip us) → Vals vs us → sp vs H Q E →
    codeAny (model P w) A (.call (.ref f) args) (CR CX outer P w H s Q E) s

section
variable {P : Program} {w : World} {K : PySem.W.Frag} {mg : Str → Option Value} {base : Heap}

theorem fnQ_fn {CX : CXT} {k : Nat} {f : Addr} {fd : FuncData} {ps : List Str} {sp : Sp}
    (F : FnOk P w K mg base CX k f fd ps sp) : FnQ P w K mg base CX k f fd ps sp :=
  ⟨F.len, fun A outer s H args us vs Q E _ => F.run A outer s H args us vs Q E⟩

/-- such a def by its body -/
theorem fnQ_of {CX : CXT} {k : Nat} {f : Addr} {nm ql : Str} {par : Arguments} {bd : List Stmt} {sc : Scope}
    {dV kV doc pm cdv ct oc : Value} {an od : Option Addr} {osl : Array (Option Value)} {N ps : List Str} {sp : Sp}
    (lk : K.lookup f = some ⟨oc, od, .func (PySem.W.fnOf nm ql par bd sc dV kV doc pm an cdv ct), osl⟩)
    (hcd : PySem.W.codeIn K cdv ql = true) (S : FnScope N ps sc)
    (len : ∀ vs H Q E, sp vs H Q E → vs.length = ps.length)
    (hb : ∀ (A : Around) (outer : List Env) (s : Shared) (H : Hp) (vs : List V) (Q : VK) (E : XK), A.guards = some [] →
      Room k (A.deeper (envOfC ql sc s.heap.objs.size f cdv)) → sp vs H Q E →
      ∃ t, PSs (cxOf CX P w K mg base N ql sc f cdv A outer s H E) bd t ∧
        t { nx := fun _ H' => Q .non H', rt := Q } (start N vs) H) :
    FnQ P w K mg base CX (k + 1) f (PySem.W.fnOf nm ql par bd sc dV kV doc pm an cdv ct) ps sp := by
  refine ⟨len, fun A outer s H args us vs Q E hgu hr e0 hbi r hsp => ?_⟩
  have hlen := len _ _ _ _ hsp
  have keepB : ∀ b o, base.get? b = some o → s.heap.get? b = some o := fun b o e => (e0.bs b o e).1
  have KX : K.In s.heap := e0.mod.kin.keeps keepB
  have lim : s.heap.NoLimit := e0.mod.nolimit.keeps keepB
  refine codeAny_call_function hr.depth (KX _ _ lk) rfl S.co S.gen rfl (PySem.W.codeRec_of KX hcd) (hbi _ _ _ _ ?_)
  refine wpAny_newFunctionEnv_cells S.kind (fun ⟨n, v⟩ hy => ?_) fun env he s1 x => ?_
  · exact (S.par n (List.of_mem_zip hy).1).elim .inl fun q => .inr ⟨q, PySem.W.cellsFrom_some _ _ _ (.inl q)⟩
  subst he
  refine ⟨lim.keeps x.toInCall.keep, codeAny_func ?_⟩
  obtain ⟨t, ht, hq⟩ := hb A outer s H vs Q E hgu (hr.deeper _) hsp
  have I := inv_start (CX := CX) (E := E) S hr.hd e0 hlen r x
  refine wpAny_mono (ht.run [] s1 (start N vs) H _ I hq) (fun fl s' hs => ?_) fun e s' hs => hs
  cases fl with
  | ret u =>
    obtain ⟨v, σ', H', J, rv, q⟩ := hs
    exact ⟨v, H', J.os, J.bare, J.base, J.hok, rv, q⟩
  | next =>
    obtain ⟨σ', H', J, q⟩ := hs
    exact ⟨V.non, H', J.os, J.bare, J.base, J.hok, rfl, q⟩
  | brk =>
    obtain ⟨_, _, _, q⟩ := hs
    exact q.elim
  | cont =>
    obtain ⟨_, _, _, q⟩ := hs
    exact q.elim

/-- the same in the words of Fun -/
theorem funQ {x ql : Str} {st : Stmt} {f : Addr} {fd : FuncData} {N ps : List Str} {k : Nat} {sp : Sp} (F : Fun K x ql st f fd)
    (S : FnScope N ps (defScope st)) (len : ∀ vs H Q E, sp vs H Q E → vs.length = ps.length)
    (hb : ∀ (cdv : Value) (A : Around) (outer : List Env) (s : Shared) (H : Hp) (vs : List V) (Q : VK) (E : XK), A.guards = some [] →
      Room k (A.deeper (envOfC ql (defScope st) s.heap.objs.size f cdv)) → sp vs H Q E →
      ∃ t, PSs (cxOf CX0 P w K mg base N ql (defScope st) f cdv A outer s H E).nox (defBody st) t ∧
        t { nx := fun _ H' => Q .non H', rt := Q } (start N vs) H) : FnQ P w K mg base CX0 (k + 1) f fd ps sp := by
  obtain ⟨oc, od, kV, doc, pm, an, cdv, ct, osl, rfl, lk, hcd⟩ := F.ex
  refine fnQ_of lk hcd S len fun A outer s H vs Q E hgu hr hsp => ?_
  obtain ⟨t, h, q⟩ := hb cdv A outer s H vs Q E hgu hr hsp
  exact ⟨t, h.nox, q⟩
/-- .. where exceptions may run within the body (a try) -/
theorem funQx {x ql : Str} {st : Stmt} {f : Addr} {fd : FuncData} {N ps : List Str} {k : Nat} {sp : Sp} {CX : CXT} (F : Fun K x ql st f fd)
    (S : FnScope N ps (defScope st)) (len : ∀ vs H Q E, sp vs H Q E → vs.length = ps.length)
    (hb : ∀ (cdv : Value) (A : Around) (outer : List Env) (s : Shared) (H : Hp) (vs : List V) (Q : VK) (E : XK), A.guards = some [] →
      Room k (A.deeper (envOfC ql (defScope st) s.heap.objs.size f cdv)) → sp vs H Q E →
      ∃ t, PSs (cxOf CX P w K mg base N ql (defScope st) f cdv A outer s H E) (defBody st) t ∧
        t { nx := fun _ H' => Q .non H', rt := Q } (start N vs) H) : FnQ P w K mg base CX (k + 1) f fd ps sp := by
  obtain ⟨oc, od, kV, doc, pm, an, cdv, ct, osl, rfl, lk, hcd⟩ := F.ex
  exact fnQ_of lk hcd S len fun A outer s H vs Q E hgu hr hsp => hb cdv A outer s H vs Q E hgu hr hsp
end

section
variable {X : Cx} {CX : CXT} {k : Nat} {f : Addr} {fd : FuncData} {ps : List Str} {sp : Sp} {dvs : List V} {ds : List Value} {E : XK} {x : Str} {p pos : Pos} {e : Expr} {es : List Expr} {t : TA}
theorem run_fnQ {pins : List (Addr × Obj)} {σ : L2.St} {H : Hp} {s : Shared} {Q : VK} {us : List Value} {vs : List V} (hgu : X.A.guards = some [])
    (F : FnQ X.prog X.w X.K X.mg X.base CX k f fd ps sp) (hr : Room k X.A) (hb : Binds X.K fd ps ds) (hd : Vals dvs ds) (hx : Passes CX X E)
    (I : Inv X pins σ H s) (r : Vals vs us) (h : sp (vs ++ dvs) H Q E) : wpAny (model X.prog X.w) X.A (call (.ref f) us) (EP X pins σ Q) X.xe s := by
  have r2 := Vals.append r hd
  have hl : (us ++ ds).length = ps.length := (r2.length).symm.trans (F.len _ _ _ _ h)
  refine wpAny_call (codeAny_mono (F.run X.A X.stack s H ⟨us, []⟩ (us ++ ds) (vs ++ dvs) Q E hgu hr I.env0 (hb s us I.kIn hl) r2 h) fun rr s' hq => ?_)
  match rr, hq with
  | .error e, hq => exact hx pins σ H s e s' I hq
  | .ok (.ret u), hq => exact I.after hq
/-- f(e, ..) -/
theorem pe_callQ (hgu : X.A.guards = some []) (F : FnQ X.prog X.w X.K X.mg X.base CX k f fd ps sp) (hr : Room k X.A) (hg : Gl X x) (hm : X.mg x = some (.ref f))
    (hk : PySem.W.keepIn X.K (.ref f) = true) (hb : Binds X.K fd ps ds) (hd : Vals dvs ds) (hx : Passes CX X E) (ha : PA X (e :: es) t)
    (hdb : (x == ("__debug__" : Str)) = false := by decide) (he : starEach (e :: es) X.env = (false, eval e X.env) :: starEach es X.env := by rfl)
    (hpl : (backTo pos (starEach es X.env)).any (·.1) = false := by rfl) : PE X (.Call (.Name x p) (e :: es) [] pos) (tCall sp dvs E t) :=
  ⟨fun pins s σ H Q I h => wpAny_Call_Name_kw (ld_glob I hg hm (PySem.W.callWith_K (h₀ := X.base) I.ok.mod.kin hk
    (thn (ha.run pos pins s σ H _ I h) fun us s1 ⟨vs, H1, I1, r, q⟩ => ⟨I1.kIn, run_fnQ hgu F hr hb hd hx I1 r q⟩) he hpl) hdb)⟩
end
end Gr

set_option Elab.async false
set_option maxRecDepth 100000
set_option maxHeartbeats 4000000
set_option linter.all false
/-! Ours: repr of data (lists, tuples, dicts of int and text keys, nested), where no repr is under way. -/
namespace Gr
open PySem PySem.Spec PyProof.Rows L2

mutual
/-- the value v holds the data d -/
inductive Dq (K : PySem.W.Frag) (H : Hp) : V → PyData → Prop
  | non : Dq K H .non .none
  | bl (b : Bool) : Dq K H (.bl b) (.bool b)
  | int (i : Int) : Dq K H (.int i) (.int i)
  | str (x : Str) : Dq K H (.str x) (.str x)
  | lst {a : Addr} {xs : List V} {ds : List PyData} : SqL K H a xs → DqAll K H xs ds → Dq K H (.ref a) (.list ds)
  | tup {a : Addr} {xs : List V} {ds : List PyData} : SqT K H a xs → DqAll K H xs ds → Dq K H (.ref a) (.tuple ds)
  | dic {a : Addr} {kvs : List (Key × V)} {ds : List (PyData × PyData)} : H a = some (.dK kvs) →
      DqAll K H (kvs.map fun p => kV p.1) (ds.map (·.1)) → DqAll K H (kvs.map (·.2)) (ds.map (·.2)) → Dq K H (.ref a) (.dict ds)
inductive DqAll (K : PySem.W.Frag) (H : Hp) : List V → List PyData → Prop
  | nil : DqAll K H [] []
  | cons {v : V} {vs : List V} {d : PyData} {ds : List PyData} : Dq K H v d → DqAll K H vs ds → DqAll K H (v :: vs) (d :: ds)
end

theorem SqT_same {K : PySem.W.Frag} {H H' : Hp} {a : Addr} {xs : List V} (e : Same H H') (h : SqT K H a xs) : SqT K H' a xs := by
  rcases h with (h | ⟨o, h⟩) | h
  · exact .inl (.inl (e _ _ h))
  · exact .inl (.inr ⟨o, e _ _ h⟩)
  · exact .inr h
/-- what more is tracked changes no data -/
theorem Dq.same {K : PySem.W.Frag} {H H' : Hp} {v : V} {d : PyData} (e : Same H H') (h : Dq K H v d) : Dq K H' v d :=
  Dq.rec (motive_1 := fun v d _ => Dq K H' v d) (motive_2 := fun vs ds _ => DqAll K H' vs ds)
    .non .bl .int .str (fun hs _ ih => .lst (e.seq hs) ih) (fun hs _ ih => .tup (SqT_same e hs) ih)
    (fun hd _ _ i1 i2 => .dic (e _ _ hd) i1 i2) .nil (fun _ _ i1 i2 => .cons i1 i2) h
theorem DqAll.rep {K : PySem.W.Frag} {H : Hp} {v : V} {d : PyData} (h : Dq K H v d) : ∀ n : Nat, DqAll K H (List.replicate n v) (List.replicate n d)
  | 0 => .nil
  | n + 1 => .cons h (DqAll.rep h n)

theorem keys_of_pairs {P : Program} {w : World} : ∀ {es : List DictEntry} {kvs : List (Key × Value)}, Pairs (mixKind P w) es kvs → Vals (kvs.map fun p => kV p.1) (es.map (·.key))
  | _, _, .nil => .nil
  | _, _, .cons h _ t => by
    refine .cons ?_ (keys_of_pairs t)
    rcases keyIs_shape h with ⟨i, t, e1, e2⟩ | ⟨x, t, e1, e2⟩
    · dsimp only
      rw [e1, e2]
      exact ⟨t, rfl⟩
    · dsimp only
      rw [e1, e2]
      exact ⟨t, rfl⟩
theorem vals_of_pairs {P : Program} {w : World} : ∀ {es : List DictEntry} {kvs : List (Key × Value)}, Pairs (mixKind P w) es kvs → es.map (·.val) = kvs.map (·.2)
  | _, _, .nil => rfl
  | _, _, .cons _ h t => by rw [List.map_cons, List.map_cons, h, vals_of_pairs t]
theorem kv_keys : ∀ {kvs : List (Key × V)} {vs : List (Key × Value)}, KV kvs vs → kvs.map (fun p => kV p.1) = vs.map (fun p => kV p.1)
  | _, _, .nil => rfl
  | _, _, .cons h t => by rw [List.map_cons, List.map_cons, h.1, kv_keys t]
theorem kv_vals : ∀ {kvs : List (Key × V)} {vs : List (Key × Value)}, KV kvs vs → Vals (kvs.map (·.2)) (vs.map (·.2))
  | _, _, .nil => .nil
  | _, _, .cons h t => .cons h.2 (kv_vals t)

/-- sys.modules is a dict of the written part -/
def SysM (K : PySem.W.Frag) : Prop := ∃ o es n, K.lookup sysModules = some o ∧ o.data = .dict es n

section
variable {X : Cx} {pins : List (Addr × Obj)} {σ : L2.St} {H : Hp} {s : Shared}
theorem Dq.reads (I : Inv X pins σ H s) {v : V} {d : PyData} (h : Dq X.K H v d) : ∀ u : Value, RelV v u → ∃ as, Reads s.heap u d as ∧ (SysM X.K → sysModules ∉ as) := by
  refine Dq.rec (motive_1 := fun v d _ => ∀ u : Value, RelV v u → ∃ as, Reads s.heap u d as ∧ (SysM X.K → sysModules ∉ as))
    (motive_2 := fun vs ds _ => ∀ us : List Value, Vals vs us → ∃ as, ReadsAll s.heap us ds as ∧ (SysM X.K → sysModules ∉ as)) ?_ ?_ ?_ ?_ ?_ ?_ ?_ ?_ ?_ h
  · intro u r
    cases r
    exact ⟨_, .none, fun _ z => nomatch z⟩
  · intro b u r
    cases r
    exact ⟨_, .bool b, fun _ z => nomatch z⟩
  · intro i u r
    obtain ⟨t, rfl⟩ := r
    exact ⟨_, .int i t, fun _ z => nomatch z⟩
  · intro x u r
    obtain ⟨t, rfl⟩ := r
    exact ⟨_, .str x t, fun _ z => nomatch z⟩
  · intro a xs ds hs _ ih u r
    cases r
    obtain ⟨its, rv, ⟨o, n, ho, hc, _, hd⟩, _⟩ := I.list hs
    obtain ⟨as, hr, hm⟩ := ih its rv
    refine ⟨_, .list ho hc hd hr, fun M z => ?_⟩
    rcases List.mem_cons.mp z with z | z
    · obtain ⟨o', es, n', e1, e2⟩ := id M
      have e3 := I.kIn _ _ e1
      rw [z, ho] at e3
      cases e3
      rw [hd] at e2
      cases e2
    · exact hm M z
  · intro a xs ds hs _ ih u r
    cases r
    obtain ⟨its, rv, ⟨o, ho, hc, n, hd⟩, _⟩ := I.tuple hs
    obtain ⟨as, hr, hm⟩ := ih its rv
    exact ⟨_, .tuple ho hc hd hr, hm⟩
  · intro a kvs ds hd _ _ i1 i2 u r
    cases r
    obtain ⟨_, hsm, vs, kv, o, es, ep, ho, hx, hdt, _, hp, _⟩ := (show ObjOk X.prog X.w H s.heap a (.dK kvs) from I.hok a _ hd)
    obtain ⟨as, r1, m1⟩ := i1 (es.toList.map (·.key)) (by rw [kv_keys kv]; exact keys_of_pairs hp)
    obtain ⟨bs, r2, m2⟩ := i2 (es.toList.map (·.val)) (by rw [vals_of_pairs hp]; exact kv_vals kv)
    refine ⟨_, .dict ho hx.1 hdt r1 r2, fun M z => ?_⟩
    rcases List.mem_append.mp z with z | z
    · rcases List.mem_cons.mp z with z | z
      · rw [← z] at hsm
        exact absurd hsm (by decide)
      · exact m1 M z
    · exact m2 M z
  · intro us r
    cases r
    exact ⟨_, .nil, fun _ z => nomatch z⟩
  · intro v vs d ds _ _ i1 i2 us r
    cases r with
    | cons ra rr =>
      obtain ⟨as, q1, m1⟩ := i1 _ ra
      obtain ⟨bs, q2, m2⟩ := i2 _ rr
      refine ⟨_, .cons q1 q2, fun M z => ?_⟩
      rcases List.mem_append.mp z with z | z
      · exact m1 M z
      · exact m2 M z
end

/-- repr(x), x data -/
def rRepr (K : PySem.W.Frag) : List V → Hp → VK → Prop := fun xs H Q => ∃ v d, xs = [v] ∧ Dq K H v d ∧ d.showable = true ∧ d.depth ≤ 60 ∧ d.shown.length ≤ sizeLine ∧ Q (.str d.shown) H

theorem repr_ref_only {h : Heap} {d : PyData} {a : Addr} {as : List Addr} (r : Reads h (.ref a) d as) : True := trivial
section
variable {X : Cx}
theorem call_reprD (hgu : X.A.guards = some []) (hu : X.A.units + 64 < cLine) (hM : SysM X.K) : CallR X (.builtin "repr") (rRepr X.K) := by
  intro pins s σ H xs us Q I r h
  obtain ⟨v, d, rfl, hd, hs, hdp, hz, q⟩ := h
  obtain ⟨u, rfl, ru⟩ := vals1 r
  obtain ⟨as, hr, hm⟩ := hd.reads I u ru
  have fin : ∀ h' tk t, (∀ b o, s.heap.get? b = some o → h'.get? b = some o) → EP X pins σ Q (.str d.shown t) { s with heap := h', toks := tk } :=
    fun h' tk t hk => ⟨.str d.shown, H, I.kept hk, ⟨_, rfl⟩, q⟩
  cases v with
  | ref a =>
    cases (show u = Value.ref a from ru)
    exact repr_of_reads' hr hs (fun _ => hm hM) hgu (by omega) (fun _ _ e => e) (fun h' t tk hk => fin h' tk t hk) hz
  | non =>
    cases hd
    cases (show u = Value.none from ru)
    exact PySem.P.repr_of_none (fin s.heap _ _ fun _ _ e => e)
  | bl b =>
    cases hd
    cases (show u = Value.bool b from ru)
    exact PySem.P.repr_of_bool (fin s.heap _ _ fun _ _ e => e)
  | int i =>
    cases hd
    obtain ⟨t, e⟩ := (show ∃ t, u = Value.int i t from ru)
    subst e
    exact PySem.P.repr_of_int (by simpa [PyData.showable] using hs) (fin s.heap _ _ fun _ _ e => e)
  | str x =>
    cases hd
    obtain ⟨t, e⟩ := (show ∃ t, u = Value.str x t from ru)
    subst e
    exact PySem.P.repr_of_str (fin s.heap _ _ fun _ _ e => e) (by simpa [PyData.shown] using hz)
  | byt b => cases hd
  | flt b => cases hd
  | ty n => cases hd
end
end Gr

set_option Elab.async false
set_option maxRecDepth 100000
set_option maxHeartbeats 4000000
set_option linter.all false
/-! Ours: all(..) of a generator expression over a text's signs whose element may read names of the module. -/
namespace Gr
open PySem PySem.Spec PyProof.Rows L2 GxR

/-- the element tells pb of the sign; the running def's module is at hand -/
def EltG (X : Cx) (scope : Scope) (x : Str) (elt : Expr) (pb : Nat → Bool) : Prop :=
  ∀ (en : Env) (B : Around) (E' : Value → Shared → Prop) (c : Nat) (t : Tok) (z : Shared) (m : Str → Option Value),
    en.scope = scope → en.globals = X.env.globals → (∀ b o, X.base.get? b = some o → z.heap.get? b = some o) → X.base.Ns mainGlobals X.mg → X.env.globals = mainGlobals → z.heap.Ns en.locals m → m x = some (.str ⟨#[c]⟩ t) →
    wpAny (model X.prog X.w) B (eval elt en) (fun y z' => y = .bool (pb c) ∧ Keeps z z') E' z

section
variable {X : Cx} {pins : List (Addr × Obj)} {σ : L2.St} {H : Hp} {s : Shared}
/-- the code of a generator expression, and the built-ins it sees, behind an iterator that was just made -/
theorem code_then {c P : Addr} {ps : Array Value} {o : Obj} {scope : Scope} {q : Str} {gpos : Pos} {E : Value → Shared → Prop} {R : Value → Addr → Shared → Prop} (I : Inv X pins σ H s)
    (TB : TabB X.base X.mg c P) (hcode : X.env.code = .ref c) (hP : H P = some (.tbl ps)) (ht : TriplesOk ps.toList)
    (h : ∀ (cv : Value) (k : Heap) (tk : Nat) (more : Array Value), (∀ b u, b ≠ P → (s.heap.push o).get? b = some u → k.get? b = some u) → s.heap.objs.size < k.objs.size → k.get? P = some { cls := .none, data := .fields (ps ++ more) } → TriplesOk (ps ++ more).toList → k.NoLimit →
      R cv builtinsNs { s with heap := k, toks := tk }) :
    wpAny (model X.prog X.w) X.A (genexprCode X.env gpos q scope) (fun cv z => wpAny (model X.prog X.w) X.A (builtinsFor X.env.globals X.env.builtins) (fun bi z' => R cv bi z') E z) E { s with heap := s.heap.push o } := by
  have p0 : s.heap.get? P = some { cls := .none, data := .fields ps } := I.hok P _ hP
  have p1 : (s.heap.push o).get? P = some { cls := .none, data := .fields ps } := Heap.get?_push_of_some _ p0
  have cd : PySem.W.CodeHd (s.heap.push o) c P := TB.code.keeps fun b u e => Heap.get?_push_of_some _ (I.bk b u e)
  have lim : (s.heap.push o).NoLimit := I.nolimit.push o
  have nP : cStatics ≠ P := by
    obtain ⟨_, ⟨o', es, ep, ho, hd, _⟩, _⟩ := I.nolimit
    intro e
    rw [e, p0] at ho
    cases ho
    cases hd
  have last : ∀ (cv : Value) (k : Heap) (tk : Nat) (more : Array Value), Heap.ExtBut P (s.heap.push o) k → (s.heap.push o).objs.size ≤ k.objs.size → k.get? P = some { cls := .none, data := .fields (ps ++ more) } → TriplesOk (ps ++ more).toList →
      wpAny (model X.prog X.w) X.A (builtinsFor X.env.globals X.env.builtins) (fun bi z' => R cv bi z') E { s with heap := k, toks := tk } := by
    intro cv k tk more hx hs hp ht'
    obtain ⟨bm, ob, e1, e2, e3, e4, e5, e6, e7, e8⟩ := TB.bm
    have up : ∀ b u, b ≠ P → s.heap.get? b = some u → k.get? b = some u := fun b u n e => hx b u n (Heap.get?_push_of_some _ e)
    have g : k.Ns X.env.globals X.mg := by
      rw [I.ok.glob]
      exact ((I.mod.glob.keeps I.bk).push o).extBut hx TB.gP
    refine wpAny_builtinsFor g e1 e2 (up _ _ e4 (I.bk _ _ e5)) e6 e7 e8 (h cv k tk more hx ?_ hp ht' (lim.extBut hx nP))
    rw [Heap.size_push] at hs
    exact hs
  cases hf : codeAmong gpos ps.toList with
  | none =>
    refine wpAny_genexprCodeX hcode (cd.code p1 ht) (cd.tab p1) hf fun c' k tk hx hge hlt hco _ htab _ => ?_
    obtain ⟨_, _, _, _, _, _, _, _, _, _, _, _, _, _, _, _, _, _, _, htr, _⟩ := hco
    exact last _ k tk _ hx (Nat.le_of_lt (Nat.lt_of_le_of_lt hge hlt)) htab.2 htr
  | some cv =>
    refine wpAny_genexprCode_hit hcode (cd.code p1 ht) hf ?_
    have e : ps ++ #[] = ps := by simp
    exact last cv (s.heap.push o) s.toks #[] (fun b u _ e => e) (Nat.le_refl _) (by rw [e]; exact p1) (by rw [e]; exact ht)

theorem genG {c P : Addr} {elt iter : Expr} {x : Str} {px gpos : Pos} {scope : Scope} {pb : Nat → Bool} {te : TE} {k : Nat} {W : Value → Shared → Prop} {R : Str → Hp → Prop}
    (hr : Room k X.A) (TB : TabB X.base X.mg c P) (hcode : X.env.code = .ref c) (S : GenS X.env scope x) (hi : PE X iter te) (hel : EltG X scope x elt pb)
    (hs : ∀ v, genFold iter X.env v = pure v) (I : Inv X pins σ H s) (h : te σ H fun v H1 => ∃ a : Str, v = .str a ∧ TabG H1 P ∧ R a H1)
    (hQ : ∀ a H1 g z, R a H1 → Ready X pins σ H1 P a pb g z → W (.ref g) z) :
    wpAny (model X.prog X.w) X.A (eval (.GeneratorExp elt [⟨.Name x px, iter, [], 0⟩] scope gpos) X.env) W X.xe s := by
  have dr : X.A.depth < recursionLimit := Nat.lt_of_le_of_lt (by omega) hr.dp
  refine wpAny_GeneratorExp_walksQ hr.hd S.co (closure_ok S.free) S.cell S.dot S.loc S.kind dr (thn (hi.run pins s σ H _ I h) ?_) hs
  rintro xv s1 ⟨v, H1, I1, r1, a, rfl, ⟨ps, hP, ht⟩, q1⟩
  obtain ⟨t, rfl⟩ := id r1
  refine wpAny_pyIter_str fun o St Wk st0 => ⟨I1.nolimit.push o, code_then I1 TB hcode hP ht fun cv h3 tk more up lt hp ht' lim => ?_⟩
  have p0 : s1.heap.get? P = some { cls := .none, data := .fields ps } := I1.hok P _ hP
  have pl : P < s1.heap.objs.size := Heap.lt_size p0
  have at1 : ∀ b, b ∈ [s1.heap.objs.size] → b = s1.heap.objs.size := fun b hb => List.mem_singleton.mp hb
  have ne1 : s1.heap.objs.size ≠ P := fun e => Nat.lt_irrefl _ (e ▸ pl)
  have cl : cStatics < s1.heap.objs.size := let ⟨_, n, _⟩ := I1.nolimit; n.lt
  have up0 : ∀ b u, b ≠ P → s1.heap.get? b = some u → h3.get? b = some u := fun b u n e => up b u n (Heap.get?_push_of_some _ e)
  refine ⟨s1.heap.objs.size, [s1.heap.objs.size], [s1.heap.objs.size], a.cps.size, SignAt a, St, fun _ => true, fun i y => ∃ d, a.cps[i]? = some d ∧ y = .bool (pb d), rfl, Wk, ?_, fun b hb => ?_, lim, fun z => ?_, fun href hh => ?_, ?_⟩
  · refine (Wk X.A hr.hd).frame _ _ _ st0 fun b hb u e => up b u ?_ e
    rw [at1 b hb]
    exact ne1
  · rw [at1 b hb]
    exact lt
  · rw [at1 _ z] at cl
    exact Nat.lt_irrefl _ cl
  · constructor
    · intro B E' i v z m _ _ _ _ _
      rw [List.forIn_nil]
      exact wpAny_pure ⟨rfl, keeps_refl _⟩
    · intro B E' i v z m _ hv _ hn hm hk
      obtain ⟨d, u, hd, rfl⟩ := hv
      refine wpAny_mono (hel _ B E' d u z m rfl rfl (fun b w' e => ?_) I1.mod.glob I1.ok.glob hn hm) (fun y z' r => ⟨⟨d, hd, r.1⟩, r.2⟩) fun _ _ e => e
      obtain ⟨e1, e2⟩ := I1.bs b w' e
      have nb : b ≠ P := fun z => by
        rw [z, hP] at e2
        cases e2
      have lb : b < s1.heap.objs.size := Heap.lt_size e1
      refine hk b (List.mem_range.mpr (Nat.lt_trans lb lt)) (fun z => ?_) _ (hh _ _ (up0 b w' nb e1))
      rw [at1 b z] at lb
      exact Nat.lt_irrefl _ lb
  · intro g h5 tk5 gs gb ag sz5 k5 W5 hat
    simp only [GxR.passing_true, List.length_range] at W5
    refine hQ a H1 g _ q1 ⟨_, _, _, _, _, W5.in4_1, hat, ?_, fun s' mv => ?_⟩
    · rintro j y z Q' E' ⟨i, hij, d, hd, rfl⟩ q
      obtain ⟨hj, ej⟩ := List.getElem?_eq_some_iff.mp hij
      rw [List.getElem_range] at ej
      cases ej
      have e : a.cps.toList[j]? = some d := (Array.getElem?_toList (xs := a.cps) (i := j)).trans hd
      have q' : Q' (trF pb a.cps.toList j) z := q
      rw [trF_some e] at q'
      exact wpAny_truthy_bool q'
    · have nw : ∀ b u, s1.heap.get? b = some u → b ∉ h3.objs.size :: [s1.heap.objs.size] := fun b u e hb => by
        have l := Heap.lt_size e
        have l2 : s1.heap.objs.size < h3.objs.size := lt
        rcases List.mem_cons.mp hb with z | z
        · rw [z] at l
          exact Nat.lt_asymm l l2
        · rw [at1 b z] at l
          exact Nat.lt_irrefl _ l
      have J := inv_tab (more := more) (h' := s'.heap) (g' := s'.gens) (d' := s'.drawn) (t' := s'.toks) I1 hP (fun b u n e => mv.heap b u (nw b u e) (k5 b u (up0 b u n e))) (mv.heap P _ (nw P _ p0) (k5 P _ hp)) (AllBare.movedS (I1.bare.push gb) mv)
      have es : ({ s1 with heap := s'.heap, gens := s'.gens, drawn := s'.drawn, toks := s'.toks } : Shared) = s' := by
        obtain ⟨_, _, _, _, _⟩ := s'
        have := mv.os
        dsimp only at this
        rw [this]
      rw [es] at J
      exact ⟨upd H1 P (.tbl (ps ++ more)), ⟨⟨_, upd_same, ht'⟩, fun b hb => upd_ne hb⟩, J⟩

/-- all(elt for x in e), e a text -/
theorem pe_allG {c P : Addr} {elt iter : Expr} {x : Str} {px p pos gpos : Pos} {scope : Scope} {pb : Nat → Bool} {te : TE} {k : Nat}
    (hr : Room k X.A) (hg : Gl X "all") (hm : X.mg "all" = none) (TB : TabB X.base X.mg c P) (hcode : X.env.code = .ref c) (S : GenS X.env scope x) (hi : PE X iter te) (hel : EltG X scope x elt pb)
    (hs : ∀ v, genFold iter X.env v = pure v)
    (he : starEach [.GeneratorExp elt [⟨.Name x px, iter, [], 0⟩] scope gpos] X.env = (false, eval (.GeneratorExp elt [⟨.Name x px, iter, [], 0⟩] scope gpos) X.env) :: starEach [] X.env := by rfl) :
    PE X (.Call (.Name "all" p) [.GeneratorExp elt [⟨.Name x px, iter, [], 0⟩] scope gpos] [] pos) (tAllS P pb te) := by
  refine ⟨fun pins s σ H Q I h => wpAny_Call_Name_kw (ld_blt I hg hm boot_all (PyProof.Rows.callWith_builtin1 ?_ he (by rfl)))⟩
  rw [he]
  show wpAny _ _ (spliced ((false, eval (.GeneratorExp elt [⟨.Name x px, iter, [], 0⟩] scope gpos) X.env) :: backTo pos (starEach [] X.env))) _ _ s
  refine Calls.spliced_cons (genG (R := fun a H1 => ∀ H2, Tabbed P H1 H2 → Q (.bl (a.cps.toList.all pb)) H2) hr TB hcode S hi hel hs I h ?_)
  rintro a H1 g z hR ⟨fp, wr, G, F, St, W, hst, htr, hI⟩
  refine Calls.spliced_nil (call_all_walkS (W.self 0 _ _ _ hst ⟨g, fp, wr, G, _, F, St, _, rfl, W, hst, htr, fun s' mv => ?_⟩))
  obtain ⟨H2, hT, J⟩ := hI s' mv
  rw [all_signs a pb]
  exact ⟨.bl _, H2, J, rfl, hR H2 hT⟩
end

/-- x == 'k' -/
theorem eg_eq {X : Cx} {scope : Scope} {x k : Str} {j : Nat} {p1 p2 p3 : Pos} (hk : scope.kind = .function) (hl : scope.names.lookup x = some .local) (hd : (x == ("__debug__" : Str)) = false := by decide) :
    EltG X scope x (.Compare (.Name x p1) [.Eq] [.Constant (.str k) j p2] p3) (fun c => [c] == k.cps.toList) :=
  fun en B E' c t z m hs _ _ _ _ hn hm => elt_eq (prog := X.prog) (w := X.w) (scope := scope) hk hl hd en B E' c t z m hs hn hm
/-- x in G, G a text of the module -/
theorem eg_in {X : Cx} {scope : Scope} {x G : Str} {y : Str} {t0 : Tok} {p1 p2 p3 : Pos} (hk : scope.kind = .function) (hl : scope.names.lookup x = some .local) (hG : scope.names.lookup G = some .globalImplicit) (hmG : X.mg G = some (.str y t0))
    (hd : (x == ("__debug__" : Str)) = false := by decide) (hd2 : (G == ("__debug__" : Str)) = false := by decide) :
    EltG X scope x (.Compare (.Name x p1) [.In] [.Name G p2] p3) (fun c => decide (c ∈ y.cps.toList)) := by
  intro en B E' c t z m hs hg hb hns hgl hn hm
  have hkind : en.scope.kind = .function := by rw [hs]; exact hk
  have hkx : en.scope.names.lookup x = some .local := by rw [hs]; exact hl
  have hkG : en.kindOf G = some .globalImplicit := by
    show en.scope.names.lookup G = _
    rw [hs]
    exact hG
  refine wpAny_Compare1 (wpAny_Name (wpAny_loadName_local hkind hkx hn hm ?_) hd) (by rfl)
  refine Calls.Name_function_global hkind hkG (Calls.loadGlobal_global (by rw [hg, hgl]; exact hns.keeps hb) hmG ?_) hd2
  refine PyProof.Rows.in_str ⟨?_, keeps_refl _⟩
  rw [PySem.StrLaws.found_one]
/-- a or b -/
theorem eg_or {X : Cx} {scope : Scope} {x : Str} {a b : Expr} {pa pb : Nat → Bool} {pos : Pos} (ha : EltG X scope x a pa) (hb : EltG X scope x b pb) : EltG X scope x (.BoolOp .Or [a, b] pos) (fun c => pa c || pb c) := by
  intro en B E' c t z m hs hg hbs hns hgl hn hm
  refine BoolOp_or (wpAny_mono (ha en B _ c t z m hs hg hbs hns hgl hn hm) (fun y z' ⟨e, ⟨h', tk, e2, kp⟩⟩ => ?_) fun _ _ e => e)
  subst e
  subst e2
  refine wpAny_truthy_bool ?_
  cases hc : pa c with
  | true => exact ⟨by show _ = Value.bool (pa c || pb c); rw [hc]; rfl, h', tk, rfl, kp⟩
  | false =>
    refine BoolOp_one (wpAny_mono (hb en B E' c t _ m hs hg (fun b o e => kp b o (hbs b o e)) hns hgl (hn.keeps kp) hm) (fun y z' ⟨e, ⟨h2, tk2, e2, kp2⟩⟩ => ?_) fun _ _ e => e)
    subst e
    subst e2
    exact ⟨by show _ = Value.bool (pa c || pb c); rw [hc]; rfl, h2, tk2, rfl, fun b o q => kp2 b o (kp b o q)⟩
end Gr

set_option Elab.async false
set_option maxRecDepth 100000
set_option maxHeartbeats 4000000
set_option linter.all false
/-! Ours: enumerate over a text, with or without a start told by its name; o.f |= e; a def called with keywords alone. -/
namespace Gr
open PySem PySem.Spec PyProof.Rows L2

/-- pairs (c + i, the sign at i) of a text, each a new one -/
def Itx (x : Str) (c : Int) : It := ⟨fun i _ => i < x.cps.size, fun i H v H' => ∃ T d, v = .ref T ∧ H T = none ∧ H' = upd H T (.tup [.int (c + (i : Nat)), .str ⟨#[d]⟩]) ∧ x.cps[i]? = some d, fun i _ => x.cps.size = i⟩
def YTx (x : Str) (c : Int) : Nat → Hp → V → Hp → Prop := fun i H v H' => ∃ T d, v = .ref T ∧ H T = none ∧ H' = upd H T (.tup [.int (c + (i : Nat)), .str ⟨#[d]⟩]) ∧ x.cps[i]? = some d
theorem walk_tx {x : Str} {c : Int} : Walk (Itx x c) x.cps.size (fun _ => True) (YTx x c) :=
  ⟨fun _ _ hi _ => hi, fun _ _ => rfl, fun _ _ _ _ _ _ y => y⟩
theorem turn_tx {P : Program} {w : World} {K : PySem.W.Frag} {elts : List Expr} {kk : Nat} {tpos : Pos} {e it : Addr} {x : Str} {t : Tok} {c : Int} :
    Turn P w K (.Tuple elts kk tpos) (Itx x c) [e, it] e (fun i h => (∃ old, IsEnum h e it (c + (i : Int)) old) ∧ h.IsStrIter it (strIterType x) x t i ∧ e ≠ it) where
  mem := List.mem_cons_self
  obj := by
    rintro i h ⟨⟨old, he⟩, ⟨o, ho, hc, hd⟩, _⟩ b hb
    rcases List.mem_cons.mp hb with z | z
    · rw [z]
      exact ⟨_, he, fun v q => nomatch q⟩
    · rw [List.mem_singleton.mp z]
      exact ⟨o, ho, fun v q => by rw [hd] at q; cases q⟩
  keep := by
    rintro i h h' ⟨⟨old, he⟩, ⟨o, ho, r⟩, ne⟩ k
    exact ⟨⟨old, k e (List.mem_cons_self) _ he⟩, ⟨o, k it (by simp) _ ho, r⟩, ne⟩
  item := by
    intro X hP hw hK hc i pins s σ H E I hf st hg
    subst hP hw hK
    obtain ⟨⟨old, he⟩, hit, ne⟩ := st
    have el : e < s.heap.objs.size := Heap.lt_size he
    have il : it < s.heap.objs.size := let ⟨_, q, _⟩ := hit; Heap.lt_size q
    refine wpAny_pyNext_enum_itemC (Draws.text (A := X.A.in1) (I.ok.hd hc) it x t) he hit hg ne (fun z => ne (List.mem_singleton.mp z)) fun u h' tk hu ho hit' hT hz hk => ?_
    obtain ⟨d, tu, hd, rfl⟩ := hu
    refine ⟨_, rfl, wpAny_letOwnedTupleGo_enum (s := { s with heap := h', toks := tk + 1 }) ho fun h'' he' sb => ?_⟩
    have nT : s.heap.objs.size ≠ e := Nat.ne_of_gt el
    have hT2 : h''.get? s.heap.objs.size = some { cls := .type "tuple", data := .seq #[.int (c + (i : Int)) tk, .str ⟨#[d]⟩ tu] } := (sb.2 _ nT).trans hT
    have new : ObjOk X.prog X.w (upd H s.heap.objs.size (.tup [.int (c + (i : Nat)), .str ⟨#[d]⟩])) h'' s.heap.objs.size (.tup [.int (c + (i : Nat)), .str ⟨#[d]⟩]) :=
      ⟨by show 2 ≤ sizeLine; decide, _, .cons ⟨_, rfl⟩ (.cons ⟨_, rfl⟩ .nil), ⟨_, hT2, rfl, _, rfl⟩⟩
    have I1 : Inv X pins σ (upd H s.heap.objs.size (.tup [.int (c + (i : Nat)), .str ⟨#[d]⟩])) { s with heap := h'', toks := tk + 1 } := by
      refine I.turnedNew (ch := [e, it]) (fun b ob hb q => ?_) hf (Nat.le_refl _) new
      have n1 : b ≠ e := fun z => hb (z ▸ List.mem_cons_self)
      have n2 : b ≠ it := fun z => hb (by rw [z]; exact List.mem_cons_of_mem _ List.mem_cons_self)
      exact (sb.2 b n1).trans (hk b ob n1 n2 q)
    refine ⟨.ref s.heap.objs.size, _, I1, rfl, ⟨_, d, rfl, I.hok.fresh (Nat.le_refl _), rfl, hd⟩, ⟨⟨.str ⟨#[d]⟩ tu, ?_⟩, ?_, ne⟩, fun b hb => ?_⟩
    · have q : c + ((i + 1 : Nat) : Int) = c + (i : Int) + 1 := by omega
      rw [q]
      exact he'
    · obtain ⟨o, q, r⟩ := hit'
      exact ⟨o, (sb.2 it (Ne.symm ne)).trans q, r⟩
    · have lb : b < s.heap.objs.size := by
        rcases List.mem_cons.mp hb with z | z
        · rw [z]
          exact el
        · rw [List.mem_singleton.mp z]
          exact il
      rw [upd_ne (Nat.ne_of_lt lb)]
      exact (hf b hb).1
  done := by
    intro X hP hw hK hc i pins s σ H E I hf st hg
    subst hP hw hK
    obtain ⟨⟨old, he⟩, hit, ne⟩ := st
    have hi : x.cps.size = i := hg
    subst hi
    have D := Draws.text (prog := X.prog) (w := X.w) (A := X.A.in1) (I.ok.hd hc) it x t
    obtain ⟨f0, f1, f2, f3, f4, f5⟩ := hf it (by simp)
    exact wpAny_pyNext_enum_endD D he hit fun h' eb => ⟨rfl, I.turned (t' := s.toks) (fun b o hb q => eb b o hb q) f0 f1 f3 f4 f5⟩
  self := fun A i s Q E ⟨⟨_, he⟩, _⟩ h => wpAny_pyIter_enum he h

/-- enumerate(e), e a text; enumerate(e, start=k) -/
def iEnumS (ta : TA) : TI := fun σ H R => ta σ H fun vs H1 => ∃ x, vs = [.str x] ∧ R (Itx x 0) H1
def iEnumK (ta tk : TA) : TI := fun σ H R => ta σ H fun vs H1 => tk σ H1 fun ks H2 => ∃ x k, vs = [.str x] ∧ ks = [.int k] ∧ -(2 ^ 63) ≤ k ∧ k < 2 ^ 63 ∧ R (Itx x k) H2
section
variable {X : Cx} {e f : Expr} {ta tk : TA} {p pos tpos kpos : Pos} {elts : List Expr} {kk : Nat}
theorem begun_tx {pins : List (Addr × Obj)} {σ : L2.St} {H : Hp} {s : Shared} {R : It → Hp → Prop} {x : Str} {t : Tok} {k : Int} {h' : Heap} (I : Inv X pins σ H s)
    (he : IsEnum h' (s.heap.objs.size + 1) s.heap.objs.size k .none) (hit : h'.IsStrIter s.heap.objs.size (strIterType x) x t 0) (hk : ∀ b o, s.heap.get? b = some o → h'.get? b = some o) (q : R (Itx x k) H) :
    PIE X pins σ (.Tuple elts kk tpos) R (.ref (s.heap.objs.size + 1)) { s with heap := h' } := by
  refine ⟨_, [s.heap.objs.size + 1, s.heap.objs.size], _, _, H, rfl, I.kept (t' := s.toks) hk, turn_tx (x := x) (t := t) (c := k), ⟨⟨.none, ?_⟩, hit, Nat.succ_ne_self _⟩, fun b hb => ?_, q⟩
  · have z : k + ((0 : Nat) : Int) = k := by omega
    rw [z]
    exact he
  · have lb : s.heap.objs.size ≤ b := by
      rcases List.mem_cons.mp hb with z | z
      · rw [z]
        exact Nat.le_succ _
      · rw [List.mem_singleton.mp z]
        exact Nat.le_refl _
    exact I.fpOk lb (I.hok.fresh lb)
theorem pi_enumS (hg : Gl X "enumerate") (hm : X.mg "enumerate" = none) (ha : PA X [e] ta) (hs : starEach [e] X.env = [(false, eval e X.env)] := by rfl) :
    PI X (.Tuple elts kk tpos) (.Call (.Name "enumerate" p) [e] [] pos) (iEnumS ta) := by
  refine ⟨fun pins s σ H R I h => Call_ (ld_blt I hg hm boot_enumerate (PyProof.Rows.callWith_type1 (thn (ha.run pos pins s σ H _ I h) ?_) hs rfl))⟩
  rintro us s1 ⟨vs, H1, I1, r1, x, rfl, q⟩
  obtain ⟨u, rfl, ru⟩ := vals1 r1
  obtain ⟨t, rfl⟩ := ru
  exact call_enumerate_str fun h' he hit _ hk => wpAny_pyIter_enum he (begun_tx I1 he hit hk q)
theorem pi_enumK (hg : Gl X "enumerate") (hm : X.mg "enumerate" = none) (ha : PA X [e] ta) (hk : PK X [⟨some ("start" : Str), f, kpos⟩] tk) (hs : starEach [e] X.env = (false, eval e X.env) :: starEach [] X.env := by rfl)
    (hpl : ((backTo pos (starEach [e] X.env)).any (·.1) || (backToKw pos (keywordEach [⟨some ("start" : Str), f, kpos⟩] X.env)).any (·.1.isNone)) = false := by rfl) :
    PI X (.Tuple elts kk tpos) (.Call (.Name "enumerate" p) [e] [⟨some ("start" : Str), f, kpos⟩] pos) (iEnumK ta tk) := by
  refine ⟨fun pins s σ H R I h => wpAny_Call_Name_kw (ld_blt I hg hm boot_enumerate ?_)⟩
  refine PySem.W.callWith_of (P := fun _ => True) hpl (fun _ _ => ⟨.machine, .inr (.inl rfl), fun {A' Q' E' s'} _ z => wpAny_pure z⟩) (PyProof.Rows.evalArgs_kw2 (by rfl) (thn (ha.run pos pins s σ H _ I h) ?_) hs)
  rintro us s1 ⟨vs, H1, I1, r1, q⟩
  refine thn (hk.run pos pins s1 σ H1 _ I1 q) ?_
  rintro ws s2 ⟨zs, H2, I2, r2, x, k, rfl, rfl, k0, k1, q⟩
  refine ⟨trivial, ?_⟩
  obtain ⟨u, rfl, ru⟩ := vals1 r1
  obtain ⟨t, rfl⟩ := ru
  obtain ⟨u2, rfl, ru2⟩ := vals1 r2
  obtain ⟨t2, rfl⟩ := ru2
  refine enum_begins_start (begins_text x t) trivial k0 k1 fun h' he ho _ hk => wpAny_pyIter_enum he (begun_tx I2 he ⟨_, ho, rfl, rfl⟩ hk q)
end

/-! ### o.f |= e -/
def rOr : V → V → Hp → VK → Prop := fun x y H Q => ∃ i j, x = .int i ∧ y = .int j ∧ Q (.int (Builtin.bitOr i j)) H
theorem in_or {X : Cx} : InOp X .BitOr rOr := by
  rintro pins s σ H x y u v Q I rx ry ⟨i, j, rfl, rfl, q⟩
  obtain ⟨t, rfl⟩ := id rx
  obtain ⟨t', rfl⟩ := id ry
  exact PyProof.Rows.ior_int ⟨.int (Builtin.bitOr i j), H, I.tok _, ⟨_, rfl⟩, q⟩

/-! ### f(k = e, ..) -/
section
variable {X : Cx} {CX : CXT} {k : Nat} {f : Addr} {fd : FuncData} {ps ks : List Str} {sp : Sp} {E : XK} {x : Str} {p pos : Pos} {tk : TA} {g : List Value → List Value → List Value} {gV : List V → List V → List V} {kws : List Keyword}
theorem pe_callK0 (F : FnOk X.prog X.w X.K X.mg X.base CX k f fd ps sp) (hr : Room k X.A) (hg : Gl X x) (hm : X.mg x = some (.ref f)) (hk : PySem.W.keepIn X.K (.ref f) = true) (hb : KBinds X.K fd ps ks g gV) (hx : Passes CX X E) (hkw : PK X kws tk)
    (hall : (backToKw pos (keywordEach kws X.env)).all (·.1.isSome) = true := by rfl) (hks : (backToKw pos (keywordEach kws X.env)).filterMap (·.1) = ks := by rfl) (hdb : (x == ("__debug__" : Str)) = false := by decide)
    (hpl : ((backTo pos (starEach [] X.env)).any (·.1) || (backToKw pos (keywordEach kws X.env)).any (·.1.isNone)) = false := by rfl) :
    PE X (.Call (.Name x p) [] kws pos) (tCallK sp gV E tNil tk) := by
  refine ⟨fun pins s σ H Q I h => wpAny_Call_Name_kw (ld_glob I hg hm ?_ hdb)⟩
  refine PySem.W.callWith_KW0 (h₀ := X.base) I.ok.mod.kin hk hall (thn (hkw.run pos pins s σ H _ I h) ?_) hpl
  rintro ws s2 ⟨zs, H2, I2, rz, q⟩
  refine ⟨I2.kIn, ?_⟩
  rw [hks]
  exact run_fnk F hr hb hx I2 .nil rz q
end
end Gr

set_option Elab.async false
set_option maxRecDepth 100000
set_option maxHeartbeats 4000000
set_option linter.all false
/-! Ours: zip of a list and a tuple. -/
namespace Gr
open PySem PySem.Spec PyProof.Rows L2

theorem paired_at {α β : Type} {r : α → β → Prop} : ∀ {xs : List α} {ys : List β}, Paired r xs ys → ∀ {i : Nat} {x : α}, xs[i]? = some x → ∃ y, ys[i]? = some y ∧ r x y
  | _, _, .nil, i, x, h => by cases h
  | _, _, .cons a b, 0, x, h => ⟨_, rfl, by cases h; exact a⟩
  | _, _, .cons a b, i + 1, x, h => paired_at b h
theorem paired_len {α β : Type} {r : α → β → Prop} : ∀ {xs : List α} {ys : List β}, Paired r xs ys → xs.length = ys.length
  | _, _, .nil => rfl
  | _, _, .cons a b => congrArg (· + 1) (paired_len b)
theorem plain_is {h : Heap} {a : Addr} {its : Array Value} (p : PlainL h a its) : h.IsList a its := let ⟨o, n, h1, h2, _, h4⟩ := p; ⟨o, h1, h2, n, h4⟩
theorem in5 {N c : Nat} (h : c ∈ [N + 4, N + 2, N + 3, N, N + 1]) : N ≤ c ∧ c ≤ N + 4 := by
  simp only [List.mem_cons, List.not_mem_nil, or_false] at h
  omega
/-- pairs of the list at a and the tuple at b -/
def ItzM (K : PySem.W.Frag) (a b : Addr) (xs ys : List V) : It :=
  ⟨fun i H => SqL K H a xs ∧ SqT K H b ys ∧ i < xs.length ∧ i < ys.length,
   fun i H v H' => ∃ T x y, v = .ref T ∧ H T = none ∧ H' = upd H T (.tup [x, y]) ∧ xs[i]? = some x ∧ ys[i]? = some y,
   fun i H => SqL K H a xs ∧ SqT K H b ys ∧ i ≤ xs.length ∧ i ≤ ys.length ∧ (i = xs.length ∨ i = ys.length)⟩
def YzM (xs ys : List V) : Nat → Hp → V → Hp → Prop := fun i H v H' => ∃ T x y, v = .ref T ∧ H T = none ∧ H' = upd H T (.tup [x, y]) ∧ xs[i]? = some x ∧ ys[i]? = some y
theorem walk_zipM {K : PySem.W.Frag} {a b : Addr} {xs ys : List V} {n : Nat} (h1 : n = xs.length) (h2 : n = ys.length) : Walk (ItzM K a b xs ys) n (fun H => SqL K H a xs ∧ SqT K H b ys) (YzM xs ys) :=
  ⟨fun i H hi q => ⟨q.1, q.2, by omega, by omega⟩, fun H q => ⟨q.1, q.2, by omega, by omega, .inl h1⟩, fun _ _ _ _ _ _ y => y⟩
theorem turn_zipM {P : Program} {w : World} {K : PySem.W.Frag} {elts : List Expr} {kk : Nat} {tpos : Pos} {a b : Addr} {xs ys : List V} {N : Nat} (ha : a < N) (hb : b < N) :
    Turn P w K (.Tuple elts kk tpos) (ItzM K a b xs ys) [N + 4, N + 2, N + 3, N, N + 1] (N + 4) (fun i h => IsZip h (N + 4) (N + 2) (N + 3) .none ∧ IsTupOf2 h (N + 2) (.ref N) (.ref (N + 1)) ∧ (∃ x y, IsTupOf2 h (N + 3) x y) ∧ h.IsListIter N a i ∧ h.IsTupleIter (N + 1) b i) where
  mem := List.mem_cons_self
  obj := by
    rintro i h ⟨hz, hTI, ⟨_, _, hTO⟩, ⟨o1, e1, _, d1⟩, ⟨o2, e2, _, d2⟩⟩ b hb
    simp only [List.mem_cons, List.not_mem_nil, or_false] at hb
    rcases hb with rfl | rfl | rfl | rfl | rfl
    · exact ⟨_, hz, fun v q => nomatch q⟩
    · exact ⟨_, hTI, fun v q => nomatch q⟩
    · exact ⟨_, hTO, fun v q => nomatch q⟩
    · exact ⟨_, e1, fun v q => by rw [d1] at q; cases q⟩
    · exact ⟨_, e2, fun v q => by rw [d2] at q; cases q⟩
  keep := by
    rintro i h h' ⟨hz, hTI, ⟨x, y, hTO⟩, ⟨o1, e1, r1⟩, ⟨o2, e2, r2⟩⟩ k
    exact ⟨k _ (by simp) _ hz, k _ (by simp) _ hTI, ⟨x, y, k _ (by simp) _ hTO⟩, ⟨o1, k _ (by simp) _ e1, r1⟩, ⟨o2, k _ (by simp) _ e2, r2⟩⟩
  item := by
    intro X hP hw hK hc i pins s σ H E I hf st hg
    subst hP hw hK
    obtain ⟨hz, hTI, ⟨x, y, hTO⟩, it1, it2⟩ := st
    obtain ⟨hL, hT, l1, l2⟩ := hg
    obtain ⟨v1, r1, p1, m1⟩ := I.list hL
    obtain ⟨v2, r2, p2, m2⟩ := I.tuple hT
    have g1 : xs[i]? = some xs[i] := List.getElem?_eq_getElem l1
    have g2 : ys[i]? = some ys[i] := List.getElem?_eq_getElem l2
    obtain ⟨u1, w1, q1⟩ := paired_at r1 g1
    obtain ⟨u2, w2, q2⟩ := paired_at r2 g2
    have n1 : i < v1.toArray.size := by rw [List.size_toArray, ← paired_len r1]; exact l1
    have n2 : i < v2.toArray.size := by rw [List.size_toArray, ← paired_len r2]; exact l2
    have sep := zip_sep2 (N := N) (fp1 := [a]) (fp2 := [b]) (fun c hc => by rw [List.mem_singleton.mp hc]; exact ha) (fun c hc => by rw [List.mem_singleton.mp hc]; exact hb)
    have zl : N + 4 < s.heap.objs.size := Heap.lt_size hz
    refine wpAny_pyNext_zipD2_item sep (Draws.list (A := X.A.in1) (I.ok.hd hc) N a (Nat.ne_of_lt ha) v1.toArray) (Draws.tuple (A := X.A.in1) (I.ok.hd hc) (N + 1) b (Nat.ne_of_lt (Nat.lt_succ_of_lt hb)) v2.toArray)
      hz hTI hTO ⟨it1, ?_⟩ ⟨it2, ?_⟩ n1 n2 fun x1 x2 h' tk e1 e2 hz' hTO' st1 st2 hT' hs' hk => ?_
    · exact plain_is p1
    · exact p2
    have ex1 : x1 = u1 := by
      have : v1[i]? = some x1 := (List.getElem?_toArray (xs := v1) (i := i)).symm.trans e1
      rw [w1] at this
      exact (Option.some.inj this).symm
    have ex2 : x2 = u2 := by
      have : v2[i]? = some x2 := (List.getElem?_toArray (xs := v2) (i := i)).symm.trans e2
      rw [w2] at this
      exact (Option.some.inj this).symm
    refine ⟨_, rfl, wpAny_letOwnedTupleGo_zip hz' fun h'' hz'' sb => ?_⟩
    have nT : s.heap.objs.size ≠ N + 4 := Nat.ne_of_gt zl
    have hT2 : h''.get? s.heap.objs.size = some { cls := .type "tuple", data := .seq #[x1, x2] } := (sb.2 _ nT).trans hT'
    have new : ObjOk X.prog X.w (upd H s.heap.objs.size (.tup [xs[i], ys[i]])) h'' s.heap.objs.size (.tup [xs[i], ys[i]]) :=
      ⟨by show 2 ≤ sizeLine; decide, _, .cons (ex1 ▸ q1) (.cons (ex2 ▸ q2) .nil), ⟨_, hT2, rfl, _, rfl⟩⟩
    have I1 : Inv X pins σ (upd H s.heap.objs.size (.tup [xs[i], ys[i]])) { s with heap := h'', toks := tk } := by
      refine I.turnedNew (ch := [N + 4, N + 2, N + 3, N, N + 1]) (fun b ob hb q => ?_) hf (Nat.le_refl _) new
      simp only [List.mem_cons, List.not_mem_nil, or_false, not_or] at hb
      exact (sb.2 b hb.1).trans (hk b ob hb.1 hb.2.2.1 hb.2.2.2.1 hb.2.2.2.2 q)
    have tInz : N + 2 ≠ N + 4 := by omega
    have n23 : N + 2 ≠ N + 3 := by omega
    have n20 : N + 2 ≠ N := by omega
    have n21 : N + 2 ≠ N + 1 := by omega
    have tOnz : N + 3 ≠ N + 4 := by omega
    have i1nz : N ≠ N + 4 := by omega
    have i2nz : N + 1 ≠ N + 4 := by omega
    refine ⟨.ref s.heap.objs.size, _, I1, rfl, ⟨_, _, _, rfl, I.hok.fresh (Nat.le_refl _), rfl, g1, g2⟩, ⟨hz'', ?_, ⟨x1, x2, (sb.2 _ tOnz).trans hTO'⟩, ?_, ?_⟩, fun c hc => ?_⟩
    · exact (sb.2 _ tInz).trans (hk _ _ tInz n23 n20 n21 hTI)
    · obtain ⟨o, q, r⟩ := st1.1
      exact ⟨o, (sb.2 _ i1nz).trans q, r⟩
    · obtain ⟨o, q, r⟩ := st2.1
      exact ⟨o, (sb.2 _ i2nz).trans q, r⟩
    · have lc : c < s.heap.objs.size := Nat.lt_of_le_of_lt (in5 hc).2 zl
      rw [upd_ne (Nat.ne_of_lt lc)]
      exact (hf c hc).1
  done := by
    intro X hP hw hK hc i pins s σ H E I hf st hg
    subst hP hw hK
    obtain ⟨hz, hTI, ⟨x, y, hTO⟩, it1, it2⟩ := st
    obtain ⟨hL, hT, l1, l2, e⟩ := hg
    obtain ⟨v1, r1, p1, m1⟩ := I.list hL
    obtain ⟨v2, r2, p2, m2⟩ := I.tuple hT
    have s1 : v1.toArray.size = xs.length := by rw [List.size_toArray, ← paired_len r1]
    have s2 : v2.toArray.size = ys.length := by rw [List.size_toArray, ← paired_len r2]
    have sep := zip_sep2 (N := N) (fp1 := [a]) (fp2 := [b]) (fun c hc => by rw [List.mem_singleton.mp hc]; exact ha) (fun c hc => by rw [List.mem_singleton.mp hc]; exact hb)
    refine wpAny_pyNext_zipD2_end sep (Draws.list (A := X.A.in1) (I.ok.hd hc) N a (Nat.ne_of_lt ha) v1.toArray) (Draws.tuple (A := X.A.in1) (I.ok.hd hc) (N + 1) b (Nat.ne_of_lt (Nat.lt_succ_of_lt hb)) v2.toArray)
      hz hTI hTO ⟨it1, ?_⟩ ⟨it2, ?_⟩ (by omega) (by omega) (by omega) fun h' tk hk => ⟨rfl, I.turnedL (ch := [N + 4, N + 2, N + 3, N, N + 1]) (fun c o hc q => ?_) hf⟩
    · exact plain_is p1
    · exact p2
    · simp only [List.mem_cons, List.not_mem_nil, or_false, not_or] at hc
      exact hk c o hc.1 hc.2.2.1 hc.2.2.2.1 hc.2.2.2.2 q
  self := fun A i s Q E ⟨hz, _⟩ h => wpAny_pyIter_zip hz h
/-- zip(xs, ys), a list and a tuple -/
def iZipM (K : PySem.W.Frag) (ta : TA) : TI := fun σ H R => ta σ H fun vs H1 => ∃ a b xs ys, vs = [.ref a, .ref b] ∧ SqL K H1 a xs ∧ SqT K H1 b ys ∧ R (ItzM K a b xs ys) H1
section
variable {X : Cx} {e e2 : Expr} {ta : TA} {p pos tpos : Pos} {elts : List Expr} {kk : Nat}
theorem pi_zipM (hg : Gl X "zip") (hm : X.mg "zip" = none) (ha : PA X [e, e2] ta) (hs : starEach [e, e2] X.env = (false, eval e X.env) :: starEach [e2] X.env := by rfl) (hpl : ((backTo pos (starEach [e2] X.env)).any (·.1)) = false := by rfl) :
    PI X (.Tuple elts kk tpos) (.Call (.Name "zip" p) [e, e2] [] pos) (iZipM X.K ta) := by
  refine ⟨fun pins s σ H R I h => Call_ (ld_blt I hg hm boot_zip (PyProof.Rows.callWith_type1 (thn (ha.run pos pins s σ H _ I h) ?_) hs hpl))⟩
  rintro us s1 ⟨vs, H1, I1, r1, a, b, xs, ys, rfl, hL, hT, q⟩
  obtain ⟨v1, q1, p1, m1⟩ := I1.list hL
  obtain ⟨v2, q2, p2, m2⟩ := I1.tuple hT
  match us, r1 with
  | _, .cons (b := _) e1 (.cons (b := _) e2 .nil) =>
  cases e1
  cases e2
  have la : a < s1.heap.objs.size := let ⟨_, _, e, _⟩ := p1; Heap.lt_size e
  have lb : b < s1.heap.objs.size := let ⟨_, e, _⟩ := p2; Heap.lt_size e
  refine zip_begins2 (begins_list a v1.toArray) (begins_tuple b v2.toArray) ?_ ?_ fun h' hz hTI hTO e1 e2 hs hk => wpAny_pyIter_zip hz ⟨_, [s1.heap.objs.size + 4, s1.heap.objs.size + 2, s1.heap.objs.size + 3, s1.heap.objs.size, s1.heap.objs.size + 1], _, _, H1, rfl, I1.kept (t' := s1.toks) hk, turn_zipM (xs := xs) (ys := ys) la lb, ⟨hz, hTI, ⟨_, _, hTO⟩, ⟨_, e1, rfl, rfl⟩, ⟨_, e2, rfl, rfl⟩⟩, fun c hc => ?_, q⟩
  · exact plain_is p1
  · exact p2
  · have lc : s1.heap.objs.size ≤ c := (in5 hc).1
    exact I1.fpOk lc (I1.hok.fresh lc)
end
end Gr

set_option Elab.async false
set_option maxRecDepth 100000
set_option maxHeartbeats 4000000
set_option linter.all false
/-! Ours: xs < ys of lists; (n, s) < (m, t) of tuples of an int and a text. -/
namespace Gr
open PySem PySem.Spec PyProof.Rows L2
theorem l_items {M : Model} {A : Around} {E : Value → Shared → Prop} {s : Shared} {l : Addr} {items : Array Value} {n : Nat} {dd : Option Addr} {sl : Array (Option Value)} {Q : Array Value → Shared → Prop}
    (hl : s.heap.get? l = some { cls := .type "list", dict := dd, data := .seq items n, slots := sl }) (q : Q items s) : wpAny M A (Builtin.List.listItems (.ref l)) Q E s := by
  obtain ⟨hp, g, d, tk, os⟩ := s
  unfold Builtin.List.listItems
  refine wpAny_bind ?_
  unfold seqItems?
  exact wpAny_bind (wpAny_load' hl (wpAny_pure (wpAny_pure q)))
theorem lt_loopAt (l b : Addr) (items items2 : Array Value) (n n2 : Nat) (dd dd2 : Option Addr) (sl sl2 : Array (Option Value)) (e r : Nat → Bool) :
    ∀ (k i : Nat), i + k = min items.size items2.size → Meets (Builtin.«list.__eq__.loop» { pos := [.ref l, .ref b, rawInt (i : Nat), rawInt 0] }) fun A R s =>
      s.heap.get? l = some { cls := .type "list", dict := dd, data := .seq items n, slots := sl } ∧ s.heap.get? b = some { cls := .type "list", dict := dd2, data := .seq items2 n2, slots := sl2 } ∧
        (∀ (j : Nat) (h1 : j < items.size) (h2 : j < items2.size), SeqAt.EqAt A.in1 s items[j] items2[j] (e j)) ∧
        (∀ (j : Nat) (h1 : j < items.size) (h2 : j < items2.size), e j = false → Ob.RcOp .Lt A.in1 s items[j] items2[j] (r j)) ∧
          R (.ok (.ret (.bool (Ob.lexAt e r (decide (items.size < items2.size)) i k)))) s
  | 0, i, hk => by
    rintro prog w A R s ⟨hl, hb, he, hr, h⟩
    refine wpAny_bind (l_items hl (wpAny_bind (l_items hb ?_)))
    have fin : wpAny (model prog w) A.in1 (do
        let xs ← Builtin.List.listItems (.ref l)
        let ys ← Builtin.List.listItems (.ref b)
        ret (.bool (decide (xs.size < ys.size)))) (fun fin s' => match fin with
          | .done f => R (.ok f) s'
          | .again c' => c'.quiet = true ∧ codeAny (model prog w) A c' R s') (fun e s' => R (.error e) s') s :=
      wpAny_bind (l_items hl (wpAny_bind (l_items hb (wpAny_pure h))))
    by_cases q : items.size ≤ i
    · have e1 : items[((i : Nat) : Int).toNat]? = none := Array.getElem?_eq_none q
      rw [e1]
      exact fin
    · have e1 : items[((i : Nat) : Int).toNat]? = some items[i] := Array.getElem?_eq_getElem (by omega)
      have e2 : items2[((i : Nat) : Int).toNat]? = none := Array.getElem?_eq_none (show items2.size ≤ i by omega)
      rw [e1, e2]
      exact fin
  | k + 1, i, hk => by
    rintro prog w A R s ⟨hl, hb, he, hr, h⟩
    refine wpAny_bind (l_items hl (wpAny_bind (l_items hb ?_)))
    have h1 : i < items.size := by omega
    have h2 : i < items2.size := by omega
    have e1 : items[((i : Nat) : Int).toNat]? = some items[i] := Array.getElem?_eq_getElem h1
    have e2 : items2[((i : Nat) : Int).toNat]? = some items2[i] := Array.getElem?_eq_getElem h2
    rw [e1, e2]
    refine wpAny_bind (he i h1 h2 prog w _ _ ?_)
    rw [Ob.lexAt_succ] at h
    cases hc : e i with
    | true =>
      rw [hc] at h
      have hs : (((i : Nat) : Int) + 1) = ((i + 1 : Nat) : Int) := rfl
      refine wpAny_pure ⟨plainId_quiet MeetsSeq3.plain_eq_loop _, codeAny_builtin MeetsSeq3.entry_eq_loop ?_⟩
      have := lt_loopAt l b items items2 n n2 dd dd2 sl sl2 e r k (i + 1) (by omega) prog w A R s ⟨hl, hb, he, hr, h⟩
      exact this
    | false =>
      rw [hc] at h
      refine wpAny_bind (l_items hl (wpAny_bind (l_items hb ?_)))
      rw [e1, e2]
      exact wpAny_bind (hr i h1 h2 hc prog w _ _ (wpAny_pure h))
theorem list_ltAt (l b : Addr) (items items2 : Array Value) (n n2 : Nat) (dd dd2 : Option Addr) (sl sl2 : Array (Option Value)) (e r : Nat → Bool) :
    Meets (Builtin.«list.__lt__» { pos := [.ref l, .ref b] }) fun A R s =>
      s.heap.get? l = some { cls := .type "list", dict := dd, data := .seq items n, slots := sl } ∧ s.heap.get? b = some { cls := .type "list", dict := dd2, data := .seq items2 n2, slots := sl2 } ∧
        (∀ (j : Nat) (h1 : j < items.size) (h2 : j < items2.size), SeqAt.EqAt A.in1 s items[j] items2[j] (e j)) ∧
        (∀ (j : Nat) (h1 : j < items.size) (h2 : j < items2.size), e j = false → Ob.RcOp .Lt A.in1 s items[j] items2[j] (r j)) ∧
          R (.ok (.ret (.bool (Ob.lexAt e r (decide (items.size < items2.size)) 0 (min items.size items2.size))))) s := by
  rintro prog w A R ⟨hp, g, d, tk, os⟩ ⟨hl, hb, he, hr, h⟩
  have f3 := AutoSeq1.sub_list_list
  refine wpAny_bind ?_
  unfold slotArgs
  refine wpAny_ite_false rfl (wpAny_ite_false rfl (wpAny_pure ?_))
  refine wpAny_bind (wpAny_bind (wpAny_bind (wpAny_loadPart' hb (wpAny_pure (wpAny_of_eq f3 ?_)))))
  refine wpAny_ite_false rfl (wpAny_ite_false rfl ?_)
  refine wpAny_pure ⟨plainId_quiet MeetsSeq3.plain_eq_loop _, codeAny_builtin MeetsSeq3.entry_eq_loop ?_⟩
  exact lt_loopAt l b items items2 n n2 dd dd2 sl sl2 e r _ 0 (Nat.zero_add _) prog w A R _ ⟨hl, hb, he, hr, h⟩
theorem lists_lt {A : Around} {s : Shared} {l b : Addr} {items items2 : Array Value} {e r : Nat → Bool} (hl : s.heap.IsList l items) (hb : s.heap.IsList b items2) (hu : A.units < cLine)
    (he : ∀ (j : Nat) (h1 : j < items.size) (h2 : j < items2.size), SeqAt.EqAt A.in1 s items[j] items2[j] (e j))
    (hr : ∀ (j : Nat) (h1 : j < items.size) (h2 : j < items2.size), e j = false → Ob.RcOp .Lt A.in1 s items[j] items2[j] (r j)) :
    Ob.RcOp .Lt A s (.ref l) (.ref b) (Ob.lexAt e r (decide (items.size < items2.size)) 0 (min items.size items2.size)) := by
  intro prog w E Q h
  obtain ⟨⟨cls, dd, data, sl⟩, ho, hc, n, hd⟩ := id hl
  obtain ⟨⟨cls2, dd2, data2, sl2⟩, ho2, hc2, n2, hd2⟩ := id hb
  dsimp only at hc hd hc2 hd2
  subst hc hd hc2 hd2
  exact richCompare_meets_room ⟨_, ho, rfl⟩ ⟨_, ho2, rfl⟩ F.slot_list_lt F.entry_list_lt (F.args_list_lt_2 (.ref l) (.ref b)) (list_ltAt l b items items2 n n2 dd dd2 sl sl2 e r) ⟨ho, ho2, he, hr, ⟨(fun x => nomatch x), h⟩⟩ hu
theorem rc_str {A : Around} {s : Shared} (x y : Str) (t u : Tok) : Ob.RcOp .Lt A s (.str x t) (.str y u) (decide (x.cps.toList < y.cps.toList)) := fun _ _ _ _ h => PySem.P.lt_str h
theorem lexAt_ints (ns ms : List Int) : ∀ (k i : Nat), i + k = min ns.length ms.length →
    Ob.lexAt (fun j => ns.getD j 0 == ms.getD j 0) (fun j => decide (ns.getD j 0 < ms.getD j 0)) (decide (ns.length < ms.length)) i k = HT.lexLt (ns.drop i) (ms.drop i)
  | 0, i, h => by
    rw [Ob.lexAt_zero]
    by_cases q : ns.length ≤ i
    · rw [List.drop_of_length_le q]
      by_cases q2 : ms.length ≤ i
      · rw [List.drop_of_length_le q2, HT.lexLt_nil_nil]
        exact decide_eq_false (by omega)
      · rw [List.drop_eq_getElem_cons (Nat.lt_of_not_le q2), HT.lexLt_nil_cons]
        exact decide_eq_true (by omega)
    · rw [List.drop_eq_getElem_cons (Nat.lt_of_not_le q), List.drop_of_length_le (show ms.length ≤ i by omega), HT.lexLt_cons_nil]
      exact decide_eq_false (by omega)
  | k + 1, i, h => by
    have h1 : i < ns.length := by omega
    have h2 : i < ms.length := by omega
    have e1 : ns.getD i 0 = ns[i] := by rw [List.getD_eq_getElem?_getD, List.getElem?_eq_getElem h1]; rfl
    have e2 : ms.getD i 0 = ms[i] := by rw [List.getD_eq_getElem?_getD, List.getElem?_eq_getElem h2]; rfl
    rw [Ob.lexAt_succ, List.drop_eq_getElem_cons h1, List.drop_eq_getElem_cons h2, HT.lexLt_cons, lexAt_ints ns ms k (i + 1) (by omega), e1, e2]
    by_cases q : ns[i] = ms[i]
    · rw [if_pos (by simp [q]), if_pos q]
    · rw [if_neg (by simp [q]), if_neg q]
/-- xs < ys, lists of ints -/
def rLtL (K : PySem.W.Frag) : R2 := fun x y H Q => ∃ a b ns ms, x = .ref a ∧ y = .ref b ∧ SqL K H a (ns.map V.int) ∧ SqL K H b (ms.map V.int) ∧ Q (.bl (HT.lexLt ns ms)) H
theorem op_ltL {X : Cx} (hu : X.A.units < cLine) : OpR X (compareOp .Lt) (rLtL X.K) := by
  rintro pins s σ H x y v u Q I rx ry ⟨a, b, ns, ms, rfl, rfl, ha, hb, q⟩
  cases (show v = Value.ref a from rx)
  cases (show u = Value.ref b from ry)
  obtain ⟨v1, r1, p1, m1⟩ := I.list ha
  obtain ⟨v2, r2, p2, m2⟩ := I.list hb
  have i1 := L2.intsAre_of r1
  have i2 := L2.intsAre_of r2
  have l1 : v1.toArray.size = ns.length := by rw [List.size_toArray, ← paired_len r1, List.length_map]
  have l2 : v2.toArray.size = ms.length := by rw [List.size_toArray, ← paired_len r2, List.length_map]
  have at1 : ∀ (j : Nat) (h : j < v1.toArray.size), ∃ t, v1.toArray[j] = Value.int (ns.getD j 0) t := fun j h => i1.int_at j _ (by simp)
  have at2 : ∀ (j : Nat) (h : j < v2.toArray.size), ∃ t, v2.toArray[j] = Value.int (ms.getD j 0) t := fun j h => i2.int_at j _ (by simp)
  have R := lists_lt (A := X.A) (s := s) (e := fun j => ns.getD j 0 == ms.getD j 0) (r := fun j => decide (ns.getD j 0 < ms.getD j 0)) (plain_is p1) (plain_is p2) hu
    (fun j h1 h2 => by
      obtain ⟨t, e1⟩ := at1 j h1
      obtain ⟨t2, e2⟩ := at2 j h2
      rw [e1, e2]
      exact SeqAt.EqAt.int_int _ _ _ _)
    (fun j h1 h2 _ => by
      obtain ⟨t, e1⟩ := at1 j h1
      obtain ⟨t2, e2⟩ := at2 j h2
      rw [e1, e2]
      exact Ob.RcOp.lt_int _ _ _ _)
  rw [l1, l2, lexAt_ints ns ms _ 0 (Nat.zero_add _)] at R
  exact R X.prog X.w X.xe (EP X pins σ Q) ⟨.bl _, H, I, rfl, q⟩
theorem two_vals {x y : V} {us : List Value} (h : Vals [x, y] us) : ∃ a b, us = [a, b] ∧ RelV x a ∧ RelV y b := by
  cases h with
  | cons a b =>
    cases b with
    | cons b c =>
      cases c
      exact ⟨_, _, rfl, a, b⟩
/-- (n, s) < (m, t) -/
def rLtP (K : PySem.W.Frag) : R2 := fun x y H Q => ∃ a b n m p r, x = .ref a ∧ y = .ref b ∧ SqT K H a [.int n, .str p] ∧ SqT K H b [.int m, .str r] ∧ Q (.bl (if n = m then decide (p.cps.toList < r.cps.toList) else decide (n < m))) H
theorem op_ltP {X : Cx} (hu : X.A.units < cLine) : OpR X (compareOp .Lt) (rLtP X.K) := by
  rintro pins s σ H x y v u Q I rx ry ⟨a, b, n, m, p, r, rfl, rfl, ha, hb, q⟩
  cases (show v = Value.ref a from rx)
  cases (show u = Value.ref b from ry)
  obtain ⟨v1, r1, p1, m1⟩ := I.tuple ha
  obtain ⟨v2, r2, p2, m2⟩ := I.tuple hb
  obtain ⟨x1, x2, rfl, f1, f2⟩ := two_vals r1
  obtain ⟨y1, y2, rfl, g1, g2⟩ := two_vals r2
  obtain ⟨t1, rfl⟩ := f1
  obtain ⟨t2, rfl⟩ := f2
  obtain ⟨t3, rfl⟩ := g1
  obtain ⟨t4, rfl⟩ := g2
  have R := Ob.RcOp.tuples_lt (A := X.A) (s := s) (e := fun j => if j = 0 then n == m else p == r) (r := fun j => if j = 0 then decide (n < m) else decide (p.cps.toList < r.cps.toList)) p1 p2 hu
    (fun j h1 h2 => by
      rcases j with _ | _ | j
      · exact SeqAt.EqAt.int_int _ _ _ _
      · exact SeqAt.EqAt.str_str _ _ _ _
      · exact absurd (show j + 1 + 1 < 2 from h1) (by omega))
    (fun j h1 h2 _ => by
      rcases j with _ | _ | j
      · exact Ob.RcOp.lt_int _ _ _ _
      · exact rc_str _ _ _ _
      · exact absurd (show j + 1 + 1 < 2 from h1) (by omega))
  have e : Ob.lexAt (fun j => if j = 0 then n == m else p == r) (fun j => if j = 0 then decide (n < m) else decide (p.cps.toList < r.cps.toList)) false 0 2 = (if n = m then decide (p.cps.toList < r.cps.toList) else decide (n < m)) := by
    rw [Ob.lexAt_succ, Ob.lexAt_succ, Ob.lexAt_zero]
    by_cases h1 : n = m
    · subst h1
      by_cases h2 : p = r
      · subst h2
        simp
      · simp [h2]
    · simp [h1]
  have z1 : ([Value.int n t1, Value.str p t2].toArray.size) = 2 := rfl
  have z2 : ([Value.int m t3, Value.str r t4].toArray.size) = 2 := rfl
  rw [z1, z2, Nat.min_self, decide_eq_false (Nat.lt_irrefl 2), e] at R
  exact R X.prog X.w X.xe (EP X pins σ Q) ⟨.bl _, H, I, rfl, q⟩
end Gr

set_option Elab.async false
set_option maxRecDepth 100000
set_option maxHeartbeats 4000000
set_option linter.all false
/-! Ours: texts as lists of signs. -/
namespace Gr
open PySem PySem.Spec PyProof.Rows L2
theorem same_upd {H : Hp} {a : Addr} {o : HO} (h : H a = none) : Same H (upd H a o) := fun b u e => by
  rw [upd_ne (ne_of_none e h)]
  exact e
theorem tx_ext {a b : Str} (h : a.cps.toList = b.cps.toList) : a = b := by
  obtain ⟨⟨x⟩⟩ := a
  obtain ⟨⟨y⟩⟩ := b
  cases (show x = y from h)
  rfl
theorem tx_len (z : Str) : z.length = z.cps.toList.length := rfl
theorem tx_app (a b : Str) : (a ++ b).cps.toList = a.cps.toList ++ b.cps.toList := by
  rw [PySem.Str.cps_append]
  exact Array.toList_append
theorem tx_starts (z : Str) (c : Nat) : Txt.startswith z ⟨#[c]⟩ = (z.cps.toList[0]? == some c) := by
  have e := PySem.StrLaws.subAt_one z c 0
  unfold Txt.startswith
  rw [Bool.eq_iff_iff, Bool.and_eq_true, decide_eq_true_eq, beq_iff_eq]
  exact e
theorem tx_last (z : Str) (h : 1 ≤ z.length) : z.cps.toList[z.length - 1]? = z.cps.toList.getLast? := by
  rw [List.getLast?_eq_getElem?]
  rfl
theorem tx_ends (z : Str) (c : Nat) : Txt.endswith z ⟨#[c]⟩ = (z.cps.toList.getLast? == some c) := by
  have e := PySem.StrLaws.subAt_one z c (z.length - 1)
  unfold Txt.endswith
  rw [Bool.eq_iff_iff, Bool.and_eq_true, decide_eq_true_eq, beq_iff_eq]
  have l1 : (⟨#[c]⟩ : Str).length = 1 := rfl
  rw [l1]
  rw [l1] at e
  constructor
  · rintro ⟨h1, h2⟩
    rw [← tx_last z (by omega)]
    exact e.mp ⟨by omega, h2⟩
  · intro h
    have hp : 1 ≤ z.length := by
      rw [tx_len]
      cases q : z.cps.toList with
      | nil =>
        rw [q] at h
        cases h
      | cons a r => simp
    rw [← tx_last z hp] at h
    have := e.mpr h
    exact ⟨by omega, this.2⟩
theorem tx_sub0 (z : Str) (n : Nat) : (Builtin.Str.strSub z 0 n).cps.toList = z.cps.toList.take n := by
  unfold Builtin.Str.strSub
  simp
theorem tx_suffix (z : Str) (c : Nat) : (Txt.removesuffix z ⟨#[c]⟩).cps.toList = if z.cps.toList.getLast? == some c then z.cps.toList.dropLast else z.cps.toList := by
  have e := tx_ends z c
  unfold Txt.endswith at e
  have l1 : (⟨#[c]⟩ : Str).length = 1 := rfl
  rw [l1] at e
  unfold Txt.removesuffix
  rw [l1]
  have e2 : (decide (1 ≤ z.length) && Builtin.Str.subAt z ⟨#[c]⟩ (z.length - 1)) = (z.cps.toList.getLast? == some c) := by
    rw [← e, Nat.zero_add]
  rw [e2]
  cases hq : z.cps.toList.getLast? == some c with
  | false => rfl
  | true =>
    have hp : 1 ≤ z.length := by
      rw [hq] at e2
      rw [Bool.and_eq_true, decide_eq_true_eq] at e2
      exact e2.1
    have ne : ¬ (z.length - 1 - 0 == z.length) = true := by
      rw [beq_iff_eq]
      omega
    show (if (z.length - 1 - 0 == z.length) = true then z else Builtin.Str.strSub z 0 (z.length - 1)).cps.toList = _
    rw [if_neg ne, tx_sub0, if_pos rfl, List.dropLast_eq_take]
    rfl
/-! slices -/
theorem cut_head (z : Str) : (cutS z none (some (-1))).cps.toList = z.cps.toList.dropLast := by
  unfold cutS
  show ((z.cps.toList.drop 0).take (HT.sIx z.length z.length (some (-1)) - 0)) = _
  rw [List.drop_zero, List.dropLast_eq_take, Nat.sub_zero]
  congr 1
  unfold HT.sIx
  rw [tx_len]
  simp
  omega
theorem cut_from (z : Str) (n : Nat) : (cutS z (some (n : Int)) none).cps.toList = z.cps.toList.drop n := by
  unfold cutS
  show ((z.cps.toList.drop (HT.sIx z.length 0 (some (n : Int)))).take (HT.sIx z.length z.length none - HT.sIx z.length 0 (some (n : Int)))) = _
  rw [HT.sIx_nat, HT.sIx_none, tx_len]
  by_cases h : n ≤ z.cps.toList.length
  · rw [Nat.min_eq_left h]
    exact List.take_of_length_le (by rw [List.length_drop]; exact Nat.le_refl _)
  · rw [Nat.min_eq_right (by omega), List.drop_of_length_le (Nat.le_refl _), List.drop_of_length_le (by omega), List.take_nil]
theorem cut_to (z : Str) (n : Nat) : (cutS z none (some (n : Int))).cps.toList = z.cps.toList.take n := by
  unfold cutS
  show ((z.cps.toList.drop 0).take (HT.sIx z.length z.length (some (n : Int)) - 0)) = _
  rw [List.drop_zero, HT.sIx_nat, tx_len, Nat.sub_zero]
  by_cases h : n ≤ z.cps.toList.length
  · rw [Nat.min_eq_left h]
  · rw [Nat.min_eq_right (by omega), List.take_of_length_le (Nat.le_refl _), List.take_of_length_le (by omega)]
theorem lit_slash : ("/" : Str) = ⟨#[47]⟩ := by decide +kernel
theorem lit_dollar : ("$" : Str) = ⟨#[36]⟩ := by decide +kernel
theorem lit_star : ("*" : Str) = ⟨#[42]⟩ := by decide +kernel
theorem str_eq_iff (a b : Str) : a = b ↔ a.cps.toList = b.cps.toList := ⟨fun e => by rw [e], tx_ext⟩
theorem one_inj {a b : Nat} : (⟨#[a]⟩ : Str) = ⟨#[b]⟩ ↔ a = b := by
  constructor
  · intro e
    have := congrArg (fun z : Str => z.cps.toList) e
    simpa using this
  · rintro rfl
    rfl
/-! heaps, comprehensions -/
theorem same_into {H H2 : Hp} {D : Addr} {o : HO} (hD : H D = none) (s : Same H H2) : Same H (upd H2 D o) := fun b u e => (upd_ne (ne_of_none e hD)).trans (s b u e)
theorem wipe1 {σ : L2.St} {j : Nat} {v : Option V} : wipe ((wipe σ [j]).set j v) [j] = wipe σ [j] := by simp [wipe]
/-- o.f within a comprehension's block -/
theorem pe_fldB {X : Cx} {s : Shared} {H : Hp} {sc : Scope} {en : Env} {fp : List Addr} {e : Expr} {f : Str} {pos : Pos} {ta : TE} (he : PE (X.blk s H sc en fp) e ta) (hb : attributeBase e f (X.blk s H sc en fp).env (eval e (X.blk s H sc en fp).env) = eval e (X.blk s H sc en fp).env) :
    PE (X.blk s H sc en fp) (.Attribute e f pos) (tFld X.K ta f) := pe_fld he hb
/-! parts that only look -/
theorem and_pure {ta tb : TE} {σ : L2.St} {H : Hp} {Q : VK} (c1 c2 : Bool) (h1 : ∀ Q' : VK, Q' (.bl c1) H → ta σ H Q') (h2 : c1 = true → ∀ Q' : VK, Q' (.bl c2) H → tb σ H Q') (q : Q (.bl (c1 && c2)) H) : tAndV ta tb σ H Q := by
  refine h1 _ ⟨c1, rfl, ?_⟩
  cases c1 with
  | true => exact if_pos rfl ▸ h2 rfl _ q
  | false => exact q
theorem or_pure {ta tb : TE} {σ : L2.St} {H : Hp} {Q : VK} (c1 c2 : Bool) (h1 : ∀ Q' : VK, Q' (.bl c1) H → ta σ H Q') (h2 : c1 = false → ∀ Q' : VK, Q' (.bl c2) H → tb σ H Q') (q : Q (.bl (c1 || c2)) H) : tOrV ta tb σ H Q := by
  refine h1 _ ⟨c1, rfl, ?_⟩
  cases c1 with
  | false => exact if_neg Bool.false_ne_true ▸ h2 rfl _ q
  | true => exact q
def tTruB (K : PySem.W.Frag) (te : TE) : TT := fun σ H Q => te σ H fun x H' => ∃ k, TruV K x H' k ∧ Q k H'
theorem pt_truthB {X : Cx} {s : Shared} {H : Hp} {sc : Scope} {en : Env} {fp : List Addr} {e : Expr} {te : TE} (he : PE (X.blk s H sc en fp) e te) (hi : ∀ whole, isTrue e (X.blk s H sc en fp).env whole = (do let v ← whole; standAt e.pos; holding [v] (truthy v))) :
    PT (X.blk s H sc en fp) e (tTruB X.K te) := pt_truth he hi
end Gr

set_option linter.all false
/-! Ours: the mathematics of patterns: a table of truths by rows, by columns; places as bits of a number. -/
namespace PM
/-- one row more: the sign c of the body, star or not; r the string, p the row ahead -/
def nrow (star : Bool) (c : Option Nat) (r : List Nat) (p : Nat → Bool) : Nat → Bool
  | 0 => p 0 && star
  | k + 1 => if star then p (k + 1) || nrow star c r p k else p k && (c == r[k]?)
def isSt (b : List Nat) (i : Nat) : Bool := b[i]? == some 42
/-- the first i signs of b fit the first k of r -/
def F (b r : List Nat) : Nat → Nat → Bool
  | 0 => fun k => k == 0
  | i + 1 => nrow (isSt b i) b[i]? r (F b r i)
theorem F_zero (b r : List Nat) (k : Nat) : F b r 0 k = (k == 0) := rfl
theorem F_succ_zero (b r : List Nat) (i : Nat) : F b r (i + 1) 0 = (F b r i 0 && isSt b i) := rfl
theorem F_succ (b r : List Nat) (i k : Nat) : F b r (i + 1) (k + 1) = if isSt b i then F b r i (k + 1) || F b r (i + 1) k else F b r i k && (b[i]? == r[k]?) := rfl

/-- a body that begins with a sign fits nothing at the empty string -/
theorem F_begin {b : List Nat} (r : List Nat) (h : isSt b 0 = false) : ∀ i, F b r i 0 = (i == 0)
  | 0 => rfl
  | 1 => by rw [F_succ_zero, h]; cases F b r 0 0 <;> rfl
  | i + 2 => by
    rw [F_succ_zero, F_begin r h (i + 1)]
    rfl

/-- only the first k signs of the string matter -/
theorem F_local {b r r' : List Nat} : ∀ (i k : Nat), (∀ j, j < k → r[j]? = r'[j]?) → F b r i k = F b r' i k
  | 0, k, _ => rfl
  | i + 1, 0, h => by rw [F_succ_zero, F_succ_zero, F_local i 0 h]
  | i + 1, k + 1, h => by
    have h' : ∀ j, j < k → r[j]? = r'[j]? := fun j hj => h j (Nat.lt_succ_of_lt hj)
    rw [F_succ, F_succ, F_local i (k + 1) h, F_local (i + 1) k h', F_local i k h', h k (Nat.lt_succ_self k)]
/-- only the first i signs of the body matter -/
theorem F_body {b b' r : List Nat} : ∀ (i k : Nat), (∀ j, j < i → b[j]? = b'[j]?) → F b r i k = F b' r i k
  | 0, k, _ => rfl
  | i + 1, 0, h => by
    rw [F_succ_zero, F_succ_zero, F_body i 0 (fun j hj => h j (Nat.lt_succ_of_lt hj))]
    unfold isSt
    rw [h i (Nat.lt_succ_self i)]
  | i + 1, k + 1, h => by
    have h' : ∀ j, j < i → b[j]? = b'[j]? := fun j hj => h j (Nat.lt_succ_of_lt hj)
    rw [F_succ, F_succ, F_body i (k + 1) h', F_body (i + 1) k h, F_body i k h']
    unfold isSt
    rw [h i (Nat.lt_succ_self i)]
/-- a star at the end takes one sign more -/
theorem F_star {b r : List Nat} {i k : Nat} (h : isSt b i = true) (f : F b r (i + 1) k = true) : F b r (i + 1) (k + 1) = true := by
  rw [F_succ, if_pos h, f, Bool.or_true]
theorem F_stars {b r : List Nat} {i k : Nat} (h : isSt b i = true) (f : F b r (i + 1) k = true) : ∀ n, F b r (i + 1) (k + n) = true
  | 0 => f
  | n + 1 => F_star h (F_stars h f n)
/-- without stars just the string itself is fitted -/
theorem F_plain {b r : List Nat} (h : ∀ i, isSt b i = false) : ∀ i k, i ≤ b.length → k ≤ r.length → (F b r i k = true ↔ b.take i = r.take k)
  | 0, 0, _, _ => by simp [F]
  | 0, k + 1, _, hk => by
    rw [F_zero]
    constructor
    · intro e
      cases e
    · intro e
      have := congrArg List.length e
      rw [List.length_take, List.length_take] at this
      omega
  | i + 1, 0, hi, _ => by
    rw [F_succ_zero, h i, Bool.and_false]
    constructor
    · intro e
      cases e
    · intro e
      have := congrArg List.length e
      rw [List.length_take, List.length_take] at this
      omega
  | i + 1, k + 1, hi, hk => by
    have hi' : i < b.length := hi
    have hk' : k < r.length := hk
    rw [F_succ, h i, if_neg Bool.false_ne_true, Bool.and_eq_true, F_plain h i k (Nat.le_of_lt hi') (Nat.le_of_lt hk'), List.getElem?_eq_getElem hi', List.getElem?_eq_getElem hk',
      beq_iff_eq, Option.some_inj, List.take_succ_eq_append_getElem hi', List.take_succ_eq_append_getElem hk']
    constructor
    · rintro ⟨e1, e2⟩
      rw [e1, e2]
    · intro e
      have el : (b.take i).length = (r.take k).length := by
        have := congrArg List.length e
        rw [List.length_append, List.length_append] at this
        simpa using this
      obtain ⟨e1, e2⟩ := List.append_inj e el
      exact ⟨e1, by simpa using e2⟩

/-! ### numbers as sets of places -/
def bits (f : Nat → Bool) : Nat → Nat
  | 0 => 0
  | n + 1 => bits f n ||| (if f n then 2 ^ n else 0)
theorem testBit_pow (n i : Nat) : (2 ^ n).testBit i = decide (n = i) := Nat.testBit_two_pow ..
theorem bits_test (f : Nat → Bool) : ∀ n i, (bits f n).testBit i = (decide (i < n) && f i)
  | 0, i => by simp [bits]
  | n + 1, i => by
    unfold bits
    rw [Nat.testBit_or, bits_test f n i]
    by_cases hi : i = n
    · subst hi
      cases hf : f i <;> simp [testBit_pow]
    · have h1 : decide (i < n + 1) = decide (i < n) := by
        apply decide_eq_decide.mpr
        omega
      rw [h1]
      cases hf : f n
      · simp
      · have : ¬ n = i := fun e => hi e.symm
        simp [testBit_pow, this]
theorem bits_lt (f : Nat → Bool) (n : Nat) : bits f n < 2 ^ n := by
  induction n with
  | zero => exact Nat.zero_lt_one
  | succ n ih =>
    unfold bits
    refine Nat.or_lt_two_pow (Nat.lt_trans ih (Nat.pow_lt_pow_right (by decide) (Nat.lt_succ_self n))) ?_
    cases f n
    · exact Nat.two_pow_pos _
    · exact Nat.pow_lt_pow_right (by decide) (Nat.lt_succ_self n)
theorem eq_of_test {a b : Nat} (h : ∀ i, a.testBit i = b.testBit i) : a = b := Nat.eq_of_testBit_eq h
theorem lt_of_test {a n : Nat} (h : ∀ i, n ≤ i → a.testBit i = false) : a < 2 ^ n := Nat.lt_pow_two_of_testBit a h

/-- the body's stars; those places kept by any sign; the places that a sign leads on from -/
def starsOf (b : List Nat) (n : Nat) : Nat := bits (isSt b) n
def heldOf (b : List Nat) (n : Nat) : Nat := bits (isSt b) n * 2
def moveOf (b : List Nat) (c : Nat) (n : Nat) : Nat := bits (fun i => !isSt b i && (b[i]? == some c)) n

theorem mul2_test (a i : Nat) : (a * 2).testBit i = (decide (0 < i) && a.testBit (i - 1)) := by
  have := Nat.testBit_mul_two_pow a i 1
  rw [Nat.pow_one] at this
  rw [this]
  rfl
theorem mul2_or (a b : Nat) : (a ||| b) * 2 = a * 2 ||| b * 2 := by
  refine eq_of_test fun i => ?_
  rw [mul2_test, Nat.testBit_or, Nat.testBit_or, mul2_test, mul2_test]
  cases decide (0 < i) <;> simp

/-- one turn of the closing -/
def grow (st s : Nat) : Nat := s ||| (s &&& st) * 2
theorem grow_test (st s i : Nat) : (grow st s).testBit i = (s.testBit i || (decide (0 < i) && (s.testBit (i - 1) && st.testBit (i - 1)))) := by
  unfold grow
  rw [Nat.testBit_or, mul2_test, Nat.testBit_and]
/-- what closing comes to -/
def clo (st s : Nat → Bool) : Nat → Bool
  | 0 => s 0
  | i + 1 => s (i + 1) || (clo st s i && st i)
theorem clo_of {st s c : Nat} {s0 : Nat → Bool} (h0 : ∀ i, s0 i = true → s.testBit i = true) (h1 : ∀ i, s.testBit i = true → clo (st.testBit ·) s0 i = true) (hf : grow st s = s) :
    ∀ i, s.testBit i = clo (st.testBit ·) s0 i
  | 0 => by
    rw [Bool.eq_iff_iff]
    exact ⟨h1 0, fun e => h0 0 e⟩
  | i + 1 => by
    rw [Bool.eq_iff_iff]
    refine ⟨h1 _, fun e => ?_⟩
    unfold clo at e
    rw [Bool.or_eq_true] at e
    rcases e with e | e
    · exact h0 _ e
    · rw [← clo_of (c := c) h0 h1 hf i] at e
      rw [← hf, grow_test]
      simp only [Nat.succ_sub_one, Nat.zero_lt_succ, decide_true, Bool.true_and]
      rw [e, Bool.or_true]
theorem grow_sub {st s : Nat} {s0 : Nat → Bool} (h1 : ∀ i, s.testBit i = true → clo (st.testBit ·) s0 i = true) : ∀ i, (grow st s).testBit i = true → clo (st.testBit ·) s0 i = true := by
  intro i e
  rw [grow_test, Bool.or_eq_true] at e
  rcases e with e | e
  · exact h1 i e
  · cases i with
    | zero => cases e
    | succ i =>
      simp only [Nat.succ_sub_one, Nat.zero_lt_succ, decide_true, Bool.true_and, Bool.and_eq_true] at e
      unfold clo
      rw [h1 i e.1, e.2]
      simp
theorem grow_ge (st s : Nat) : s ≤ grow st s := Nat.left_le_or
theorem grow_keeps {st s : Nat} {i : Nat} (h : s.testBit i = true) : (grow st s).testBit i = true := by
  rw [grow_test, h]
  rfl
theorem grow_lt {st s n : Nat} (hs : s < 2 ^ (n + 1)) (ht : st < 2 ^ n) : grow st s < 2 ^ (n + 1) := by
  unfold grow
  refine Nat.or_lt_two_pow hs ?_
  have h1 : s &&& st < 2 ^ n := Nat.lt_of_le_of_lt Nat.and_le_right ht
  rw [Nat.pow_succ]
  omega

/-- a step: the bits ahead of closing -/
def stepped (b : List Nat) (n s c : Nat) : Nat := (s &&& moveOf b c n) * 2 ||| (s &&& heldOf b n)
theorem stepped_test (b : List Nat) (n s c i : Nat) : (stepped b n s c).testBit i = (decide (0 < i) && ((s.testBit (i - 1) && (moveOf b c n).testBit (i - 1)) || (s.testBit i && (bits (isSt b) n).testBit (i - 1)))) := by
  unfold stepped heldOf
  rw [Nat.testBit_or, mul2_test, Nat.testBit_and, Nat.testBit_and, mul2_test]
  cases decide (0 < i) <;> simp
/-- the places at the first k signs, as a number -/
def Pl (b r : List Nat) (k s : Nat) : Prop := ∀ i, s.testBit i = (decide (i ≤ b.length) && F b r i k)
theorem clo_step {b r : List Nat} {k s c : Nat} (hs : Pl b r k s) (hc : r[k]? = some c) : ∀ i, clo ((starsOf b b.length).testBit ·) ((stepped b b.length s c).testBit ·) i = (decide (i ≤ b.length) && F b r i (k + 1))
  | 0 => by
    unfold clo
    rw [stepped_test, F_zero]
    simp
  | i + 1 => by
    have sti : (starsOf b b.length).testBit i = isSt b i := by
      unfold starsOf
      rw [bits_test]
      by_cases hi : i < b.length
      · simp [hi]
      · unfold isSt
        rw [List.getElem?_eq_none (Nat.le_of_not_lt hi)]
        simp
    unfold clo
    rw [clo_step hs hc i, stepped_test, sti]
    simp only [Nat.succ_sub_one, Nat.zero_lt_succ, decide_true, Bool.true_and]
    rw [hs i, hs (i + 1)]
    unfold moveOf
    rw [bits_test, bits_test]
    by_cases hi : i < b.length
    · have h1 : decide (i ≤ b.length) = true := decide_eq_true (Nat.le_of_lt hi)
      have h2 : decide (i + 1 ≤ b.length) = true := decide_eq_true hi
      have h3 : decide (i < b.length) = true := decide_eq_true hi
      rw [h1, h2, h3, F_succ, hc]
      cases hst : isSt b i
      · simp
      · simp [Bool.or_comm]
    · have h2 : decide (i + 1 ≤ b.length) = false := decide_eq_false (by omega)
      have h3 : decide (i < b.length) = false := decide_eq_false hi
      have h4 : isSt b i = false := by
        unfold isSt
        rw [List.getElem?_eq_none (Nat.le_of_not_lt hi)]
        rfl
      rw [h2, h3, h4]
      simp
end PM

set_option Elab.async false
set_option maxRecDepth 100000
set_option maxHeartbeats 4000000
set_option linter.all false
/-! Ours: the law's call where tables of code objects may grow, by a promise for calls where no repr is under way. -/
namespace Gr
open PySem PySem.Spec PyProof.Rows L2 GxR
/-- what is tracked at the law's call: the tables at ts, and the script where it is not written -/
def startH (ts : List Addr) (a : Addr) (o : Option HO) : Hp := fun b => if b ∈ ts then some (.tbl #[]) else if b = a then o else none
theorem startH_tab {ts : List Addr} {a b : Addr} {o : Option HO} (h : b ∈ ts) : startH ts a o b = some (.tbl #[]) := if_pos h
theorem startH_at {ts : List Addr} {a : Addr} {o : Option HO} (h : a ∉ ts) : startH ts a o a = o := (if_neg h).trans (if_pos rfl)
theorem startH_inv {ts : List Addr} {a b : Addr} {o : Option HO} {u : HO} (h : startH ts a o b = some u) : (b ∈ ts ∧ u = .tbl #[]) ∨ (b ∉ ts ∧ b = a ∧ o = some u) := by
  unfold startH at h
  by_cases h1 : b ∈ ts
  · rw [if_pos h1] at h
    exact .inl ⟨h1, (Option.some.inj h).symm⟩
  · rw [if_neg h1] at h
    by_cases h2 : b = a
    · rw [if_pos h2] at h
      exact .inr ⟨h1, h2, h⟩
    · rw [if_neg h2] at h
      cases h
abbrev tabO (more : Array Value) : Obj := { cls := .none, data := .fields more }
theorem law_callQT {P : Program} {w : World} {K : PySem.W.Frag} {mg mb : Str → Option Value} {k : Nat} {fa a : Addr} {cs : List (Addr × Addr)} {fd : FuncData} {x : Str} {sp : Sp} {z : Shared} {vs : List Value} {ns : List Int}
    (KX : K.In z.heap) (G : z.heap.Ns mainGlobals mg) (B : z.heap.Ns builtinsNs mb) (B2 : ∀ x : Str, x ≠ "__name__" → mb x = bootBuiltins x) (L : z.heap.NoLimit) (G0 : z.gens = #[])
    (hT : ∀ p ∈ cs, z.heap.get? p.2 = some (tabO #[])) (nT : ∀ p ∈ cs, K.lookup p.2 = none) (C : ∀ p ∈ cs, PySem.W.CodeHd z.heap p.1 p.2)
    (M : ∃ (bm : Addr) (ob : Obj), mg "__builtins__" = some (.ref bm) ∧ bm ≠ builtinsNs ∧ z.heap.get? bm = some ob ∧ ob.cls = .type "module" ∧ ob.dict = some builtinsNs ∧ ob.data = .plain)
    (ha : z.heap.get? a = some { cls := .type "list", data := .seq vs.toArray }) (hi : IntsAre vs ns) (hl : ns.length ≤ sizeLine) (hr : Room k callerA)
    (F : ∀ base : Heap, K.In base → base.Ns mainGlobals mg → (∀ p ∈ cs, TabB base mg p.1 p.2) → FnQ P w K mg base CX0 k fa fd [x] sp) (hb : ∀ (s : Shared) (u : Value), BindsTo s fd ⟨[u], []⟩ [(x, u)])
    (hsp : ∀ H : Hp, (∀ p ∈ cs, H p.2 = some (.tbl #[])) → SqL K H a (ns.map V.int) → sp [.ref a] H (fun v _ => v = .bl true) fun _ _ _ => False) :
    codeAny (model P w) callerA (.call (.ref fa) ⟨[.ref a], []⟩) (fun r s' => r = .ok (.ret (.bool true)) ∧ OldK z.heap s'.heap ∧ s'.os = z.os ∧ AllBare s'.gens) z := by
  generalize hts : cs.map (·.2) = ts
  have inT : ∀ p ∈ cs, p.2 ∈ ts := fun p hp => by rw [← hts]; exact List.mem_map.mpr ⟨p, hp, rfl⟩
  have ofT : ∀ b ∈ ts, ∃ p ∈ cs, p.2 = b := fun b hb => by rw [← hts] at hb; exact List.mem_map.mp hb
  have atT : ∀ b ∈ ts, z.heap.get? b = some (tabO #[]) := fun b hb => by obtain ⟨p, hp, e⟩ := ofT b hb; rw [← e]; exact hT p hp
  have rv := vals_ints hi
  have lenV := hi.length
  have aT : a ∉ ts := fun q => by
    have e := ha.symm.trans (atT a q)
    cases e
  -- in both ways the script may stand: written, or tracked
  have core : ∀ o : Option HO, (o = none ∨ o = some (.frz { cls := .type "list", data := .seq vs.toArray } (.lst (ns.map V.int)))) → (o ≠ none → K.lookup a = none) → SqL K (startH ts a o) a (ns.map V.int) →
      codeAny (model P w) callerA (.call (.ref fa) ⟨[.ref a], []⟩) (fun r s' => r = .ok (.ret (.bool true)) ∧ OldK z.heap s'.heap ∧ s'.os = z.os ∧ AllBare s'.gens) z := by
    intro o ho hK hS
    generalize hH : startH ts a o = H at hS
    have tab : ∀ b ∈ ts, H b = some (.tbl #[]) := fun b q => by rw [← hH]; exact startH_tab q
    have inv : ∀ {b : Addr} {u : HO}, H b = some u → (b ∈ ts ∧ u = .tbl #[]) ∨ (b ∉ ts ∧ b = a ∧ u = .frz { cls := .type "list", data := .seq vs.toArray } (.lst (ns.map V.int)) ∧ K.lookup a = none) := fun {b u} e => by
      rw [← hH] at e
      rcases startH_inv e with q | ⟨q1, q2, q3⟩
      · exact .inl q
      · rcases ho with e1 | e1
        · rw [e1] at q3; cases q3
        · rw [e1] at q3
          exact .inr ⟨q1, q2, (Option.some.inj q3).symm, hK (by rw [e1]; exact fun q => nomatch q)⟩
    have hok : HOk P w H z.heap := fun b u e => by
      rcases inv e with ⟨q, rfl⟩ | ⟨_, rfl, rfl, _⟩
      · exact atT b q
      · exact ⟨ha, by rw [List.length_map]; exact hl, vs, _, rv, ha⟩
    -- what is neither a list nor an empty table is seen in the base
    have seen : ∀ {b : Addr} {ob : Obj}, z.heap.get? b = some ob → (∀ us n, ob.data ≠ .seq us n) → ob.data ≠ .fields #[] → (hidT z.heap H).get? b = some ob := fun {b ob} e h1 h2 => hidT_get e (by
      cases q : H b with
      | none => rfl
      | some u =>
        rcases inv q with ⟨q1, _⟩ | ⟨_, rfl, _, _⟩
        · rw [atT b q1] at e
          cases e
          exact absurd rfl h2
        · rw [ha] at e
          cases e
          exact absurd rfl (h1 _ _))
    have seenD : ∀ {b : Addr} {m : Str → Option Value}, z.heap.Ns b m → (hidT z.heap H).Ns b m := fun {b m} ⟨ob, es, ep, e, d, r⟩ =>
      ⟨ob, es, ep, seen e (fun us n q => by rw [d] at q; cases q) (fun q => by rw [d] at q; cases q), d, r⟩
    have KB : K.In (hidT z.heap H) := fun b ob e => hidT_get (KX b ob e) (by
      cases q : H b with
      | none => rfl
      | some u =>
        rcases inv q with ⟨q1, _⟩ | ⟨_, rfl, _, q2⟩
        · obtain ⟨p, hp, ep⟩ := ofT b q1
          rw [← ep, nT p hp] at e
          cases e
        · rw [q2] at e
          cases e)
    have MB : Mod K mg (hidT z.heap H) := ⟨KB, seenD G, ⟨mb, seenD B, B2⟩, let ⟨mc, h1, h2⟩ := L; ⟨mc, seenD h1, h2⟩⟩
    have TB : ∀ p ∈ cs, TabB (hidT z.heap H) mg p.1 p.2 := fun p hp => by
      refine ⟨?_, ?_, fun q => ?_⟩
      · obtain ⟨ob, us, file, tf, flags, tg, inF, text, tt, e1, r1, r2, r3, rest⟩ := C p hp
        refine ⟨ob, us, file, tf, flags, tg, inF, text, tt, seen e1 (fun us' n q => by rw [r2] at q; cases q) (fun q => ?_), r1, r2, r3, rest⟩
        rw [r2] at q
        cases q
        cases r3
      · obtain ⟨bm, ob, b1, b2, b3, b4, b5, b6⟩ := M
        refine ⟨bm, ob, b1, b2, fun q => ?_, fun q => ?_, seen b3 (fun us n q => by rw [b6] at q; cases q) (fun q => by rw [b6] at q; cases q), b4, b5, b6⟩
        · obtain ⟨ob', es, ep, e, hd, _⟩ := G
          rw [q, e] at b3
          cases b3
          rw [hd] at b6
          cases b6
        · rw [q, hT p hp] at b3
          cases b3
          cases b6
      · obtain ⟨ob, es, ep, e, hd, _⟩ := G
        rw [q, hT p hp] at e
        cases e
        cases hd
    have nofr : ∀ b, b ∉ frs ([] : List Env) := fun b q => nomatch q
    have e0 : Env0 P w K mg (hidT z.heap H) callerA [] z H := ⟨rfl, MB, fun b ob e => of_hidT e, Nat.le_of_eq (hidT_size _ _), trivial, fun b q => absurd q (nofr b), hok, .of_eq G0⟩
    refine codeAny_mono ((F _ KB (seenD G) TB).run callerA [] z H ⟨[.ref a], []⟩ [.ref a] [.ref a] _ _ rfl hr e0 (hb z (.ref a)) (.cons rfl .nil) (hsp H (fun p hp => tab _ (inT p hp)) hS)) fun r s' h => ?_
    match r, h with
    | .error e, h => exact False.elim h
    | .ok (.ret u), h =>
      obtain ⟨v, H', os, bare, un, hok', r', q⟩ := h
      have q' : v = .bl true := q
      subst q'
      obtain rfl : u = Value.bool true := r'
      have kept : ∀ b ob, b ∉ ts → z.heap.get? b = some ob → s'.heap.get? b = some ob := fun b ob nb e => by
        cases q : H b with
        | none => exact un.keep b ob e q (nofr b) (fun q => nomatch q)
        | some u =>
          rcases inv q with ⟨q1, _⟩ | ⟨_, _, rfl, _⟩
          · exact absurd q1 nb
          · have e1 := (hok b _ q).1
            have e2 := (hok' b _ (un.frzs b _ _ q)).1
            exact e2.trans (e1.symm.trans e)
      have more : ∀ b ∈ ts, ∃ m : Array Value, s'.heap.get? b = some (tabO m) := fun b q => by
        obtain ⟨m, e⟩ := un.tbls b #[] (tab b q)
        exact ⟨_, hok' b _ e⟩
      refine ⟨rfl, ⟨fun b ob e => ?_, fun b ob e => ?_⟩, os, bare⟩
      · by_cases hbt : b ∈ ts
        · obtain ⟨p, hp, rfl⟩ := ofT b hbt
          obtain ⟨m, e2⟩ := more _ hbt
          rw [hT p hp] at e
          cases e
          exact .inr (.inl ⟨((C p hp).tab (hT p hp)).isCodeTable, rfl, #[], m, rfl, by rw [Array.empty_append]; exact e2⟩)
        · exact .inl (kept b ob hbt e)
      · by_cases hbt : b ∈ ts
        · exact (more b hbt).elim fun m e2 => ⟨_, e2⟩
        · exact ⟨ob, kept b ob hbt e⟩
  cases hk : K.lookup a with
  | some ob =>
    have e := KX a ob hk
    rw [ha] at e
    cases e
    exact core none (.inl rfl) (fun q => absurd rfl q) (.inr ⟨_, vs.toArray, _, hk, rfl, rfl, rfl, by rw [List.size_toArray, lenV]; exact hl, by simpa using rv⟩)
  | none => exact core _ (.inr rfl) (fun _ => hk) (.inl (.inr ⟨_, startH_at aT⟩))
/-- what the head leaves, from such a promise -/
theorem walk_ofQT {l : PySem.W.OpenLaw} {n k : Nat} {q : Program} {loose : List Str} {XP : (Str → Option Value) → Heap → Prop} {YP : World → Heap → Prop} {d : DefRec} {K : Params → PySem.W.Frag} {x : Str}
    (hn : l.most = some n) (hn2 : n ≤ sizeLine) (hdf : d.params.defaults = []) (hr : Room k callerA) (hY : ∀ (w : World) (h : Heap), YP w h → (K w.params).In h)
    (F : ∀ (w : World) (mg : Str → Option Value) (fa : Addr) (h : Heap), YP w h → (K w.params).In h → h.Ns mainGlobals mg → mg d.name = some (.ref fa) →
      ∃ (fd : FuncData) (cs : List (Addr × Addr)) (sp : Sp), (∀ p ∈ cs, h.get? p.2 = some (tabO #[])) ∧ (∀ p ∈ cs, (K w.params).lookup p.2 = none) ∧ (∀ p ∈ cs, PySem.W.CodeHd h p.1 p.2) ∧ (∀ (s : Shared) (u : Value), BindsTo s fd ⟨[u], []⟩ [(x, u)]) ∧
        (∀ (H : Hp) (a : Addr) (ns : List Int), ns.length ≤ n → (∀ p ∈ cs, H p.2 = some (.tbl #[])) → SqL (K w.params) H a (ns.map V.int) → sp [.ref a] H (fun v _ => v = .bl true) fun _ _ _ => False) ∧
        ∀ base : Heap, (K w.params).In base → base.Ns mainGlobals mg → (∀ p ∈ cs, TabB base mg p.1 p.2) → FnQ l.prog w (K w.params) mg base CX0 k fa fd [x] sp) :
    PySem.W.WalkO q loose XP YP l.row.toRowW d [] (fun f vs => PySem.call f vs) := by
  refine Att.attach_call hn hdf fun w _ z mg _ fa _ _ _ _ a vs ns G Y _ _ _ hmg hobj hints hlen hg => ?_
  have KX := hY w _ Y
  obtain ⟨fd, cs, sp, hT, nT, C, hb, hsp, hF⟩ := F w mg fa _ Y KX G.T.g hmg
  exact law_callQT KX G.T.g G.T.b G.T.builtins G.T.nolimit hg hT nT C G.T.bmain hobj hints (Nat.le_trans hlen hn2) hr hF hb fun H hH hS => hsp H a ns hlen hH hS
end Gr

set_option Elab.async false
set_option maxRecDepth 100000
set_option maxHeartbeats 2000000
set_option linter.all false
/-! Ours: quiet code: expressions and small defs over data that leave all that stood as it was, whatever frames run around. -/
namespace Gr
open PySem PySem.Spec PyProof.Rows L2 GxR

/-- the value holds the data -/
def Vd (h : Heap) (v : Value) (d : PyData) : Prop := ∃ as, Reads h v d as
theorem Vd.up {h h' : Heap} {v : Value} {d : PyData} (r : Vd h v d) (k : ∀ b o, h.get? b = some o → h'.get? b = some o) : Vd h' v d := let ⟨as, r⟩ := r; ⟨as, PyProof.Rows.Reads.keeps k r⟩
inductive VdAll (h : Heap) : List Value → List PyData → Prop
  | nil : VdAll h [] []
  | cons {v : Value} {vs : List Value} {d : PyData} {ds : List PyData} : Vd h v d → VdAll h vs ds → VdAll h (v :: vs) (d :: ds)
theorem VdAll.up {h h' : Heap} (k : ∀ b o, h.get? b = some o → h'.get? b = some o) : ∀ {vs : List Value} {ds : List PyData}, VdAll h vs ds → VdAll h' vs ds
  | _, _, .nil => .nil
  | _, _, .cons a b => .cons (a.up k) (VdAll.up k b)
theorem VdAll.len {h : Heap} : ∀ {vs : List Value} {ds : List PyData}, VdAll h vs ds → vs.length = ds.length
  | _, _, .nil => rfl
  | _, _, .cons _ b => congrArg (· + 1) (VdAll.len b)
theorem VdAll.get {h : Heap} : ∀ {vs : List Value} {ds : List PyData}, VdAll h vs ds → ∀ {i : Nat} {d : PyData}, ds[i]? = some d → ∃ v, vs[i]? = some v ∧ Vd h v d
  | _, _, .nil, i, d, e => by cases e
  | _, _, .cons a b, 0, d, e => by cases e; exact ⟨_, rfl, a⟩
  | _, _, .cons a b, i + 1, d, e => VdAll.get b e
theorem vd_all {h : Heap} : ∀ {vs : List Value} {ds : List PyData} {as : List Addr}, ReadsAll h vs ds as → VdAll h vs ds
  | _, _, _, .nil => .nil
  | _, _, _, .cons a b => .cons ⟨_, a⟩ (vd_all b)
theorem kk {s s' : Shared} (k : Keeps s s') : ∀ b o, s.heap.get? b = some o → s'.heap.get? b = some o := by
  obtain ⟨h', tk, rfl, q⟩ := k
  exact q
theorem kt {s s' s'' : Shared} (k : Keeps s s') (k' : Keeps s' s'') : Keeps s s'' := by
  obtain ⟨h', tk, rfl, q⟩ := k
  obtain ⟨h2, t2, rfl, q2⟩ := k'
  exact ⟨h2, t2, rfl, fun b o e => q2 b o (q b o e)⟩
theorem Keeps.ns {s s' : Shared} (k : Keeps s s') {L : Addr} {m : Str → Option Value} (h : s.heap.Ns L m) : s'.heap.Ns L m := h.keeps (kk k)

/-- where quiet code stands -/
structure Qc (K : PySem.W.Frag) (mg : Str → Option Value) (base : Heap) (env : Env) : Prop where
  mod : Mod K mg base
  kind : env.scope.kind = .function
  glob : env.globals = mainGlobals
  blt : env.builtins = builtinsNs

/-- what quiet code asks of the state that it runs in -/
structure Qs (base h0 : Heap) (k : Nat) (env : Env) (m : Str → Option Value) (B : Around) (z : Shared) : Prop where
  room : Room k B
  bs : ∀ b o, base.get? b = some o → z.heap.get? b = some o
  up : ∀ b o, h0.get? b = some o → z.heap.get? b = some o
  ns : z.heap.Ns env.locals m
theorem Qs.next {base h0 : Heap} {k : Nat} {env : Env} {m : Str → Option Value} {B : Around} {z z' : Shared} (q : Qs base h0 k env m B z) (e : Keeps z z') : Qs base h0 k env m B z' :=
  ⟨q.room, fun b o x => kk e b o (q.bs b o x), fun b o x => kk e b o (q.up b o x), Keeps.ns e q.ns⟩

section
variable {P : Program} {w : World} {K : PySem.W.Frag} {mg : Str → Option Value} {base h0 : Heap} {k : Nat} {env : Env} {m : Str → Option Value}
/-- e tells d -/
def QE (P : Program) (w : World) (base h0 : Heap) (k : Nat) (env : Env) (m : Str → Option Value) (e : Expr) (d : PyData) : Prop :=
  ∀ (B : Around) (E : Value → Shared → Prop) (z : Shared), Qs base h0 k env m B z → wpAny (model P w) B (eval e env) (fun y z' => Vd z'.heap y d ∧ Keeps z z') E z
def QEs (P : Program) (w : World) (base h0 : Heap) (k : Nat) (env : Env) (m : Str → Option Value) (es : List Expr) (ds : List PyData) : Prop :=
  ∀ (B : Around) (E : Value → Shared → Prop) (z : Shared) (pos : Pos), Qs base h0 k env m B z → wpAny (model P w) B (spliced (backTo pos (starEach es env))) (fun us z' => VdAll z'.heap us ds ∧ Keeps z z') E z
theorem vd_bool {h : Heap} {y : Value} {b : Bool} (r : Vd h y (.bool b)) : y = .bool b := by
  obtain ⟨as, r⟩ := r
  cases r
  rfl
theorem vd_int {h : Heap} {y : Value} {i : Int} (r : Vd h y (.int i)) : ∃ t, y = .int i t := by
  obtain ⟨as, r⟩ := r
  cases r
  exact ⟨_, rfl⟩
theorem vd_tup {h : Heap} {y : Value} {ds : List PyData} (r : Vd h y (.tuple ds)) : ∃ t its, y = .ref t ∧ IsTup h t its ∧ VdAll h its.toList ds := by
  obtain ⟨as, r⟩ := r
  cases r with
  | tuple h1 h2 h3 h4 => exact ⟨_, _, rfl, ⟨_, h1, h2, _, h3⟩, vd_all h4⟩

theorem qe_name {x : Str} {p : Pos} {v : Value} {d : PyData} (C : Qc K mg base env) (hl : env.scope.names.lookup x = some .local) (hm : m x = some v) (hv : Vd h0 v d) (hd : (x == ("__debug__" : Str)) = false := by decide) :
    QE P w base h0 k env m (.Name x p) d := fun B E z q =>
  wpAny_Name (wpAny_loadName_local C.kind hl q.ns hm ⟨hv.up q.up, keeps_refl _⟩) hd
theorem qe_int {i : Int} {j : Nat} {p : Pos} : QE P w base h0 k env m (.Constant (.int i) j p) (.int i) := fun B E z q =>
  wpAny_Constant_int ⟨⟨_, .int _ _⟩, keeps_tok _ _⟩
theorem q_glob {B : Around} {E : Value → Shared → Prop} {z : Shared} {x : Str} {u : Value} {p : Pos} {Q : Value → Shared → Prop} (C : Qc K mg base env) (q : Qs base h0 k env m B z) (hg : env.scope.names.lookup x = some .globalImplicit) (hm : mg x = some u) (h : Q u z) (hd : (x == ("__debug__" : Str)) = false := by decide) :
    wpAny (model P w) B (eval (.Name x p) env) Q E z :=
  Calls.Name_function_global C.kind hg (Calls.loadGlobal_global (by rw [C.glob]; exact C.mod.glob.keeps q.bs) hm h) hd
theorem q_blt {B : Around} {E : Value → Shared → Prop} {z : Shared} {x : Str} {u : Value} {p : Pos} {Q : Value → Shared → Prop} (C : Qc K mg base env) (q : Qs base h0 k env m B z) (hg : env.scope.names.lookup x = some .globalImplicit) (hm : mg x = none) (hv : bootBuiltins x = some u) (h : Q u z)
    (hn : x ≠ "__name__" := by decide) (hd : (x == ("__debug__" : Str)) = false := by decide) : wpAny (model P w) B (eval (.Name x p) env) Q E z := by
  obtain ⟨mb, h1, h2⟩ := C.mod.blt
  exact Calls.Name_function_global C.kind hg (Calls.loadGlobal_builtin (by rw [C.glob]; exact C.mod.glob.keeps q.bs) hm (by rw [C.blt]; exact h1.keeps q.bs) ((h2 x hn).trans hv) h) hd
/-- a whole number of the module -/
theorem qe_gint {x : Str} {p : Pos} {i : Int} {t : Tok} (C : Qc K mg base env) (hg : env.scope.names.lookup x = some .globalImplicit) (hm : mg x = some (.int i t)) (hd : (x == ("__debug__" : Str)) = false := by decide) :
    QE P w base h0 k env m (.Name x p) (.int i) := fun B E z q => q_glob C q hg hm ⟨⟨_, .int _ _⟩, keeps_refl _⟩ hd

theorem qes_nil : QEs P w base h0 k env m [] [] := fun B E z pos q => Calls.spliced_nil ⟨.nil, keeps_refl _⟩
theorem qes_cons {e : Expr} {es : List Expr} {d : PyData} {ds : List PyData} (h1 : QE P w base h0 k env m e d) (h2 : QEs P w base h0 k env m es ds) (hs : starEach (e :: es) env = (false, eval e env) :: starEach es env := by rfl) :
    QEs P w base h0 k env m (e :: es) (d :: ds) := by
  intro B E z pos q
  rw [hs]
  show wpAny _ _ (spliced ((false, eval e env) :: backTo pos (starEach es env))) _ _ z
  refine Calls.spliced_cons (thn (h1 B E z q) fun u z1 ⟨r1, k1⟩ => ?_)
  exact thn (h2 B E z1 pos (q.next k1)) fun us z2 ⟨r2, k2⟩ => ⟨.cons (r1.up (kk k2)) r2, kt k1 k2⟩

/-- isinstance(e, T) -/
theorem qe_isi {e : Expr} {T : Str} {T' : String} {p1 p2 pos : Pos} {d : PyData} {f : PyData → Bool} (C : Qc K mg base env) (he : QE P w base h0 k env m e d) (hg : env.scope.names.lookup ("isinstance" : Str) = some .globalImplicit) (hm : mg "isinstance" = none)
    (hgT : env.scope.names.lookup T = some .globalImplicit) (hmT : mg T = none) (hvT : bootBuiltins T = some (.type T')) (hT1 : T ≠ "__name__") (hT2 : (T == ("__debug__" : Str)) = false)
    (hi : ∀ {A : Around} {E : Value → Shared → Prop} {s : Shared} {v : Value} {d : PyData} {as : List Addr} {Q : Value → Shared → Prop}, Reads s.heap v d as → (∀ tk, s.toks ≤ tk → Q (.bool (f d)) { s with toks := tk }) → wpAny (model P w) A (call (.builtin "isinstance") [v, .type T']) Q E s)
    (hb : bootBuiltins "isinstance" = some (.builtin "isinstance") := by decide +kernel)
    (hs : starEach [e, .Name T p2] env = (false, eval e env) :: starEach [.Name T p2] env := by rfl) (hs2 : starEach [.Name T p2] env = (false, eval (.Name T p2) env) :: starEach [] env := by rfl)
    (hpl : (backTo pos (starEach [.Name T p2] env)).any (·.1) = false := by rfl) :
    QE P w base h0 k env m (.Call (.Name "isinstance" p1) [e, .Name T p2] [] pos) (.bool (f d)) := by
  intro B E z q
  refine wpAny_Call_Name_kw (q_blt C q hg hm hb (PyProof.Rows.callWith_builtin1 ?_ hs hpl))
  rw [hs]
  show wpAny _ _ (spliced ((false, eval e env) :: backTo pos (starEach [.Name T p2] env))) _ _ z
  refine Calls.spliced_cons (thn (he B E z q) fun u z1 ⟨r1, k1⟩ => ?_)
  rw [hs2]
  show wpAny _ _ (spliced ((false, eval (.Name T p2) env) :: backTo pos (starEach [] env))) _ _ z1
  refine Calls.spliced_cons (q_blt C (q.next k1) hgT hmT hvT (Calls.spliced_nil ?_) hT1 hT2)
  obtain ⟨as, r1⟩ := r1
  exact hi r1 fun tk _ => ⟨⟨_, .bool _⟩, kt k1 (keeps_tok _ _)⟩
/-- len(e), e a tuple -/
theorem qe_len {e : Expr} {p1 pos : Pos} {ds : List PyData} (C : Qc K mg base env) (he : QE P w base h0 k env m e (.tuple ds)) (hg : env.scope.names.lookup ("len" : Str) = some .globalImplicit) (hm : mg "len" = none) (hl : ds.length ≤ sizeLine)
    (hs : starEach [e] env = (false, eval e env) :: starEach [] env := by rfl) (hpl : (backTo pos (starEach [] env)).any (·.1) = false := by rfl) :
    QE P w base h0 k env m (.Call (.Name "len" p1) [e] [] pos) (.int ds.length) := by
  intro B E z q
  refine wpAny_Call_Name_kw (q_blt C q hg hm PySem.boot_len (PyProof.Rows.callWith_builtin1 ?_ hs hpl))
  rw [hs]
  show wpAny _ _ (spliced ((false, eval e env) :: backTo pos (starEach [] env))) _ _ z
  refine Calls.spliced_cons (thn (he B E z q) fun u z1 ⟨r1, k1⟩ => Calls.spliced_nil ?_)
  obtain ⟨t, its, rfl, ht, ha⟩ := vd_tup r1
  have hn := line63
  have hz : its.size = ds.length := by
    have := ha.len
    rw [← this, Array.length_toList]
  refine len_tuple ht (by rw [hz]; omega) ⟨?_, kt k1 (keeps_tok _ _)⟩
  rw [hz]
  exact ⟨_, .int _ _⟩
/-- e[i] -/
theorem qe_ix {e : Expr} {i : Nat} {j : Nat} {p pos : Pos} {ds : List PyData} {d : PyData} (he : QE P w base h0 k env m e (.tuple ds)) (hi : ds[i]? = some d) (hl : ds.length ≤ sizeLine) : QE P w base h0 k env m (.Subscript e (.Constant (.int i) j p) pos) d := by
  intro B E z q
  refine Subscript_ (thn (he B E z q) fun u z1 ⟨r1, k1⟩ => wpAny_Constant_int ?_)
  obtain ⟨t, its, rfl, ht, ha⟩ := vd_tup r1
  have hn := line63
  have hz : its.size = ds.length := by
    have := ha.len
    rw [← this, Array.length_toList]
  obtain ⟨hi1, _⟩ := List.getElem?_eq_some_iff.mp hi
  obtain ⟨v, hv, rv⟩ := ha.get hi
  have hv' : its[i]? = some v := by rw [← Array.getElem?_toList]; exact hv
  have hj : seqIndex? (i : Int) its.size = some i := by
    unfold seqIndex?
    have h1 : ¬ ((i : Int) < 0) := by omega
    have h2 : (0 : Int) ≤ (i : Int) ∧ (i : Int) < (its.size : Int) := by omega
    simp [h1, h2]
  refine subscriptTail_builtinR (x := v) ht.typeIs slot_tuple_getitem.lookup (getItem_tuple (j := i) (Q := fun r s' => r = v ∧ (Vd s'.heap r d ∧ Keeps z s')) ht (by omega) (by omega) hj hv' ⟨rfl, rv, kt k1 (keeps_tok _ _)⟩)
/-- a op b of whole numbers -/
theorem qe_cmp {a b : Expr} {op : CmpOp} {i j : Int} {c : Int → Int → Bool} {pos : Pos} (ha : QE P w base h0 k env m a (.int i)) (hb : QE P w base h0 k env m b (.int j))
    (ho : ∀ {A : Around} {E : Value → Shared → Prop} {s : Shared} {t u : Tok} {Q : Value → Shared → Prop}, Q (.bool (c i j)) s → wpAny (model P w) A (compareOp op (.int i t) (.int j u)) Q E s) (hm : behindInMarks op b = false := by with_unfolding_all rfl) :
    QE P w base h0 k env m (.Compare a [op] [b] pos) (.bool (c i j)) := by
  intro B E z q
  refine wpAny_Compare1 (thn (ha B E z q) fun u z1 ⟨r1, k1⟩ => thn (hb B E z1 (q.next k1)) fun v z2 ⟨r2, k2⟩ => ?_) hm
  obtain ⟨t, rfl⟩ := vd_int r1
  obtain ⟨t', rfl⟩ := vd_int r2
  exact ho ⟨⟨_, .bool _⟩, kt k1 k2⟩
/-- a op b op' c -/
theorem qe_chain {a b c : Expr} {op op' : CmpOp} {i j l : Int} {f g : Int → Int → Bool} {pos : Pos} (ha : QE P w base h0 k env m a (.int i)) (hb : QE P w base h0 k env m b (.int j)) (hc : QE P w base h0 k env m c (.int l))
    (ho : ∀ {A : Around} {E : Value → Shared → Prop} {s : Shared} {t u : Tok} {Q : Value → Shared → Prop}, Q (.bool (f i j)) s → wpAny (model P w) A (compareOp op (.int i t) (.int j u)) Q E s)
    (ho' : ∀ {A : Around} {E : Value → Shared → Prop} {s : Shared} {t u : Tok} {Q : Value → Shared → Prop}, Q (.bool (g j l)) s → wpAny (model P w) A (compareOp op' (.int j t) (.int l u)) Q E s)
    (hm : lastMarks [op, op'] [b, c] = false := by with_unfolding_all rfl) : QE P w base h0 k env m (.Compare a [op, op'] [b, c] pos) (.bool (f i j && g j l)) := by
  intro B E z q
  refine Compare_chain (thn (ha B E z q) fun u z1 ⟨r1, k1⟩ => chain_link (thn (hb B E z1 (q.next k1)) fun v z2 ⟨r2, k2⟩ => ?_)) hm
  obtain ⟨t, rfl⟩ := vd_int r1
  obtain ⟨t', rfl⟩ := vd_int r2
  refine ho (wpAny_truthy_bool ?_)
  cases f i j with
  | false => exact ite_ff ⟨⟨_, .bool _⟩, kt k1 k2⟩
  | true =>
    refine ite_tt (chain_last (thn (hc B E z2 ((q.next k1).next k2)) fun x z3 ⟨r3, k3⟩ => ?_))
    obtain ⟨t3, rfl⟩ := vd_int r3
    refine ho' ⟨?_, kt k1 (kt k2 k3)⟩
    rw [Bool.true_and]
    exact ⟨_, .bool _⟩
theorem qe_one {e : Expr} {op : BoolOp} {pos : Pos} {d : PyData} (h : QE P w base h0 k env m e d) : QE P w base h0 k env m (.BoolOp op [e] pos) d := fun B E z q => BoolOp_one (h B E z q)
theorem qe_and {a b : Expr} {rest : List Expr} {x y : Bool} {pos : Pos} (ha : QE P w base h0 k env m a (.bool x)) (hb : x = true → QE P w base h0 k env m (.BoolOp .And (b :: rest) pos) (.bool y)) :
    QE P w base h0 k env m (.BoolOp .And (a :: b :: rest) pos) (.bool (x && y)) := by
  intro B E z q
  refine BoolOp_and (thn (ha B E z q) fun u z1 ⟨r1, k1⟩ => ?_)
  cases vd_bool r1
  refine wpAny_truthy_bool ?_
  cases x with
  | false => exact ite_ff ⟨⟨_, .bool _⟩, k1⟩
  | true => exact ite_tt (thn (hb rfl B E z1 (q.next k1)) fun v z2 ⟨r2, k2⟩ => ⟨r2, kt k1 k2⟩)
theorem qe_or {a b : Expr} {rest : List Expr} {x y : Bool} {pos : Pos} (ha : QE P w base h0 k env m a (.bool x)) (hb : x = false → QE P w base h0 k env m (.BoolOp .Or (b :: rest) pos) (.bool y)) :
    QE P w base h0 k env m (.BoolOp .Or (a :: b :: rest) pos) (.bool (x || y)) := by
  intro B E z q
  refine BoolOp_or (thn (ha B E z q) fun u z1 ⟨r1, k1⟩ => ?_)
  cases vd_bool r1
  refine wpAny_truthy_bool ?_
  cases x with
  | true => exact ite_tt ⟨⟨_, .bool _⟩, k1⟩
  | false => exact ite_ff (thn (hb rfl B E z1 (q.next k1)) fun v z2 ⟨r2, k2⟩ => ⟨r2, kt k1 k2⟩)
theorem qe_not {a : Expr} {x : Bool} {pos : Pos} (ha : QE P w base h0 k env m a (.bool x)) : QE P w base h0 k env m (.UnaryOp .Not a pos) (.bool (!x)) := by
  intro B E z q
  refine UnaryOp_ (thn (ha B E z q) fun u z1 ⟨r1, k1⟩ => ?_)
  cases vd_bool r1
  exact not_of (wpAny_truthy_bool ⟨⟨_, .bool _⟩, k1⟩)
end

/-- a quiet def: whatever runs around, it tells d of the data ds -/
structure QF (P : Program) (w : World) (K : PySem.W.Frag) (mg : Str → Option Value) (base : Heap) (k : Nat) (f : Addr) (fd : FuncData) (ps : List Str) (pre : List PyData → PyData → Prop) : Prop where
  len : ∀ ds d, pre ds d → ds.length = ps.length
  run : ∀ (B : Around) (z : Shared) (args : Args) (us : List Value) (ds : List PyData) (d : PyData), Room k B → (∀ b o, base.get? b = some o → z.heap.get? b = some o) → BindsTo z fd args (ps.zip us) → VdAll z.heap us ds → pre ds d →
    codeAny (model P w) B (.call (.ref f) args) (fun r z' => ∃ y, r = .ok (.ret y) ∧ Vd z'.heap y d ∧ Keeps z z') z
section
variable {P : Program} {w : World} {K : PySem.W.Frag} {mg : Str → Option Value} {base : Heap}
/-- a def of one return, by its expression -/
theorem qf_of {k : Nat} {x ql : Str} {st : Stmt} {f : Addr} {fd : FuncData} {ps : List Str} {pre : List PyData → PyData → Prop} {e : Expr} {pos : Pos} (M : Mod K mg base) (F : Fun K x ql st f fd) (S : FnScope ps ps (defScope st)) (loc : ∀ y ∈ ps, (defScope st).names.lookup y = some .local) (bd : defBody st = [.Return (some e) pos])
    (len : ∀ ds d, pre ds d → ds.length = ps.length)
    (hb : ∀ (env : Env) (m : Str → Option Value) (h0 : Heap) (us : List Value) (ds : List PyData) (d : PyData), env.scope = defScope st → Qc K mg base env → (∀ (i : Nat) (y : Str) (v : Value), ps[i]? = some y → us[i]? = some v → m y = some v) → VdAll h0 us ds → pre ds d → QE P w base h0 k env m e d) :
    QF P w K mg base (k + 1) f fd ps pre := by
  refine ⟨len, fun B z args us ds d hr hbs hbi hv hp => ?_⟩
  obtain ⟨oc, od, kV, doc, pm, an, cdv, ct, osl, rfl, lk, hcd⟩ := F.ex
  have KX : K.In z.heap := M.kin.keeps hbs
  have lim : z.heap.NoLimit := M.nolimit.keeps hbs
  have hlen := len _ _ hp
  have hul : us.length = ps.length := hv.len.trans hlen
  refine codeAny_call_function hr.depth (KX _ _ lk) rfl S.co S.gen rfl (PySem.W.codeRec_of KX hcd) (hbi _ _ _ _ ?_)
  refine wpAny_newFunctionEnv_cells S.kind (fun ⟨n, v⟩ hy => .inl (loc n (List.of_mem_zip hy).1)) fun env he s1 x => ?_
  subst he
  refine ⟨lim.keeps x.toInCall.keep, codeAny_func ?_⟩
  have hk : Keeps z s1 := x.done
  show wpAny _ _ (execs (defBody st) _) _ _ s1
  rw [bd]
  refine wpAny_execs_cons (wpAny_Return_some ?_)
  refine thn (hb _ _ z.heap us ds d rfl ⟨M, S.kind, rfl, rfl⟩ (fun i y v h1 h2 => bindL_get S.nd h1 h2 (loc y (List.mem_of_getElem? h1))) hv hp (B.deeper _) _ s1 ⟨hr.deeper _, fun b o q => kk hk b o (hbs b o q), kk hk, x.toInCall.ns⟩) fun y z2 ⟨r2, k2⟩ => ?_
  exact ⟨y, rfl, r2, kt hk k2⟩
/-- f(e, ..) of a quiet def -/
theorem qe_call {h0 : Heap} {k : Nat} {env : Env} {m : Str → Option Value} {x : Str} {f : Addr} {fd : FuncData} {ps : List Str} {pre : List PyData → PyData → Prop} {e : Expr} {es : List Expr} {ds : List PyData} {d : PyData} {p pos : Pos} (C : Qc K mg base env) (F : QF P w K mg base k f fd ps pre)
    (hg : env.scope.names.lookup x = some .globalImplicit) (hm : mg x = some (.ref f)) (hk : PySem.W.keepIn K (.ref f) = true) (hb : Binds K fd ps []) (ha : QEs P w base h0 k env m (e :: es) ds) (hp : pre ds d) (hdb : (x == ("__debug__" : Str)) = false := by decide)
    (he : starEach (e :: es) env = (false, eval e env) :: starEach es env := by rfl) (hpl : (backTo pos (starEach es env)).any (·.1) = false := by rfl) : QE P w base h0 k env m (.Call (.Name x p) (e :: es) [] pos) d := by
  intro B E z q
  refine wpAny_Call_Name_kw (q_glob C q hg hm (PySem.W.callWith_K (h₀ := base) C.mod.kin hk (thn (ha B E z pos q) fun us z1 ⟨r1, k1⟩ => ⟨C.mod.kin.keeps (q.next k1).bs, ?_⟩) he hpl) hdb)
  have hl : (us ++ []).length = ps.length := by
    rw [List.append_nil, r1.len]
    exact F.len _ _ hp
  refine wpAny_call (codeAny_mono (F.run B z1 ⟨us, []⟩ (us ++ []) ds d q.room (q.next k1).bs (hb z1 us (C.mod.kin.keeps (q.next k1).bs) hl) (by rw [List.append_nil]; exact r1) hp) fun r z2 h => ?_)
  obtain ⟨y, rfl, r2, k2⟩ := h
  exact ⟨r2, kt k1 k2⟩
end
end Gr

set_option Elab.async false
set_option maxRecDepth 100000
set_option maxHeartbeats 2000000
set_option linter.all false
/-! Ours: all(..), any(..) of a generator expression over a tuple whose element is quiet: it may call quiet defs. -/
namespace Gr
open PySem PySem.Spec PyProof.Rows L2 GxR
mutual
/-- data that is read does not stand at an object that is of no class -/
theorem reads_but {h h' : Heap} {P : Addr} {o0 : Obj} (k : ∀ b o, b ≠ P → h.get? b = some o → h'.get? b = some o) (p0 : h.get? P = some o0) (c0 : o0.cls = .none) : ∀ {v : Value} {d : PyData} {as : List Addr}, Reads h v d as → Reads h' v d as
  | _, _, _, .none => .none
  | _, _, _, .bool b => .bool b
  | _, _, _, .int i t => .int i t
  | _, _, _, .str x t => .str x t
  | _, _, _, .list h1 h2 h3 h4 => .list (k _ _ (fun e => by rw [e, p0] at h1; cases h1; rw [c0] at h2; cases h2) h1) h2 h3 (readsAll_but k p0 c0 h4)
  | _, _, _, .tuple h1 h2 h3 h4 => .tuple (k _ _ (fun e => by rw [e, p0] at h1; cases h1; rw [c0] at h2; cases h2) h1) h2 h3 (readsAll_but k p0 c0 h4)
  | _, _, _, .dict h1 h2 h3 h4 h5 => .dict (k _ _ (fun e => by rw [e, p0] at h1; cases h1; rw [c0] at h2; cases h2) h1) h2 h3 (readsAll_but k p0 c0 h4) (readsAll_but k p0 c0 h5)
theorem readsAll_but {h h' : Heap} {P : Addr} {o0 : Obj} (k : ∀ b o, b ≠ P → h.get? b = some o → h'.get? b = some o) (p0 : h.get? P = some o0) (c0 : o0.cls = .none) : ∀ {vs : List Value} {ds : List PyData} {as : List Addr}, ReadsAll h vs ds as → ReadsAll h' vs ds as
  | _, _, _, .nil => .nil
  | _, _, _, .cons a b => .cons (reads_but k p0 c0 a) (readsAll_but k p0 c0 b)
end
/-- a tuple's length has a bound -/
def szD : PyData → Prop
  | .tuple es => es.length ≤ sizeLine
  | _ => True
theorem DqAll.len {K : PySem.W.Frag} {H : Hp} {vs : List V} {ds : List PyData} (h : DqAll K H vs ds) : vs.length = ds.length :=
  DqAll.rec (motive_1 := fun _ _ _ => True) (motive_2 := fun vs ds _ => vs.length = ds.length) trivial (fun _ => trivial) (fun _ => trivial) (fun _ => trivial) (fun _ _ _ => trivial) (fun _ _ _ => trivial) (fun _ _ _ _ _ => trivial) rfl (fun _ _ _ ih => congrArg (· + 1) ih) h
/-- the element over the data d -/
def EltD (X : Cx) (k : Nat) (scope : Scope) (x : Str) (elt : Expr) (pb : PyData → Bool) : Prop :=
  ∀ (en : Env) (m : Str → Option Value) (h0 : Heap) (v : Value) (d : PyData), en.scope = scope → Qc X.K X.mg X.base en → m x = some v → Vd h0 v d → szD d → QE X.prog X.w X.base h0 k en m elt (.bool (pb d))
def trD (pb : PyData → Bool) (l : List PyData) (j : Nat) : Bool := match l[j]? with
  | some d => pb d
  | none => false
theorem trD_all (pb : PyData → Bool) : ∀ l : List PyData, (List.range l.length).all (trD pb l) = l.all pb
  | [] => rfl
  | d :: l => by
    have e : (d :: l).length = l.length + 1 := rfl
    rw [e, List.range_succ_eq_map, List.all_cons, List.all_map, List.all_cons, ← trD_all pb l]
    rfl
theorem trD_any (pb : PyData → Bool) : ∀ l : List PyData, (List.range l.length).any (trD pb l) = l.any pb
  | [] => rfl
  | d :: l => by
    have e : (d :: l).length = l.length + 1 := rfl
    rw [e, List.range_succ_eq_map, List.any_cons, List.any_map, List.any_cons, ← trD_any pb l]
    rfl
section
variable {X : Cx} {pins : List (Addr × Obj)} {σ : L2.St} {H : Hp} {s : Shared}
theorem Dq.sz (I : Inv X pins σ H s) {v : V} {d : PyData} (h : Dq X.K H v d) : szD d := by
  cases h with
  | tup hs ha =>
    obtain ⟨its, r, pl, hz⟩ := I.tuple hs
    show _ ≤ sizeLine
    rw [← ha.len]
    exact hz
  | _ => trivial
theorem DqAll.szs (I : Inv X pins σ H s) {vs : List V} {ds : List PyData} (h : DqAll X.K H vs ds) : ∀ d ∈ ds, szD d :=
  DqAll.rec (motive_1 := fun v d _ => szD d) (motive_2 := fun vs ds _ => ∀ d ∈ ds, szD d) trivial (fun _ => trivial) (fun _ => trivial) (fun _ => trivial) (fun _ _ _ => trivial) (fun hs ha _ => Dq.sz I (.tup hs ha)) (fun _ _ _ _ _ => trivial) (fun d hd => nomatch hd)
    (fun _ _ i1 i2 d hd => by
      rcases List.mem_cons.mp hd with e | e
      · rw [e]; exact i1
      · exact i2 d e) h
/-- the generator g over the data ds, ready to be walked -/
def ReadyD (X : Cx) (pins : List (Addr × Obj)) (σ : L2.St) (H1 : Hp) (P : Addr) (ds : List PyData) (pb : PyData → Bool) (g : Addr) (s5 : Shared) : Prop :=
  ∃ (fp wr : List Addr) (G : Array GenState → Array GenState → Prop) (F : Nat → Value → Prop) (S : Nat → Shared → Prop),
    WalksS X.prog X.w X.A.in1 g fp wr G ds.length F S ∧ S 0 s5 ∧ TruthOf X.prog X.w X.A.in1 F (trD pb ds) ∧ ∀ s', Moved wr G s5 s' → ∃ H2, Tabbed P H1 H2 ∧ Inv X pins σ H2 s'
theorem genD {c P : Addr} {elt iter : Expr} {x : Str} {px gpos : Pos} {scope : Scope} {pb : PyData → Bool} {te : TE} {k : Nat} {W : Value → Shared → Prop} {R : List PyData → Hp → Prop}
    (hr : Room (k + 1) X.A) (TB : TabB X.base X.mg c P) (hcode : X.env.code = .ref c) (S : GenS X.env scope x) (hi : PE X iter te) (hel : EltD X k scope x elt pb)
    (hs : ∀ v, genFold iter X.env v = pure v) (I : Inv X pins σ H s) (h : te σ H fun v H1 => ∃ ds, Dq X.K H1 v (.tuple ds) ∧ TabG H1 P ∧ R ds H1)
    (hQ : ∀ ds H1 g z, R ds H1 → ReadyD X pins σ H1 P ds pb g z → W (.ref g) z) :
    wpAny (model X.prog X.w) X.A (eval (.GeneratorExp elt [⟨.Name x px, iter, [], 0⟩] scope gpos) X.env) W X.xe s := by
  refine wpAny_GeneratorExp_walksQD hr.hd S.co (closure_ok S.free) S.cell S.dot S.loc S.kind hr.depth (thn (hi.run pins s σ H _ I h) ?_) hs
  rintro xv s1 ⟨v, H1, I1, r1, ds, hd, ⟨ps, hP, ht⟩, q1⟩
  obtain ⟨asv, rv, _⟩ := hd.reads I1 xv r1
  obtain ⟨tt, its, rfl, hit, hva⟩ := vd_tup ⟨asv, rv⟩
  have hsz : its.size = ds.length := by rw [← hva.len, Array.length_toList]
  have szs : ∀ d ∈ ds, szD d := by
    cases hd with
    | tup hs2 ha2 => exact DqAll.szs I1 ha2
  have tlt : tt < s1.heap.objs.size := let ⟨_, e, _⟩ := hit; Heap.lt_size e
  refine wpAny_pyIter_tuple hit ⟨I1.nolimit.push _, code_then I1 TB hcode hP ht fun cv h3 tk more up lt hp ht' lim => ?_⟩
  have p0 : s1.heap.get? P = some { cls := .none, data := .fields ps } := I1.hok P _ hP
  have pl : P < s1.heap.objs.size := Heap.lt_size p0
  have at1 : ∀ b, b ∈ [s1.heap.objs.size] → b = s1.heap.objs.size := fun b hb => List.mem_singleton.mp hb
  have cl : cStatics < s1.heap.objs.size := let ⟨_, n, _⟩ := I1.nolimit; n.lt
  have tP : tt ≠ P := fun e => by
    obtain ⟨o, e1, e2, _⟩ := hit
    rw [e, p0] at e1
    cases e1
    cases e2
  have up0 : ∀ b u, b ≠ P → s1.heap.get? b = some u → h3.get? b = some u := fun b u n e => up b u n (Heap.get?_push_of_some _ e)
  have tn : tt ≠ s1.heap.objs.size := Nat.ne_of_lt tlt
  refine ⟨s1.heap.objs.size, [s1.heap.objs.size, tt], [s1.heap.objs.size], its.size, (fun i v => its[i]? = some v), (fun i h => h.IsTupleIter s1.heap.objs.size tt i ∧ h.IsTuple tt its), fun _ => true, fun i y => ∃ d, ds[i]? = some d ∧ y = .bool (pb d), rfl,
    fun A' hh => Walks.tuple hh _ _ tn its, ⟨⟨_, up _ _ (fun e => ?_) (Heap.get?_push_size _ rfl), rfl, rfl⟩, ?_⟩, fun b hb => ?_, lim, fun z => ?_, fun href hh => ?_, ?_⟩
  · rw [← e] at pl
    exact Nat.lt_irrefl _ pl
  · obtain ⟨o, e1, e2⟩ := hit
    exact ⟨o, up0 _ _ tP e1, e2⟩
  · rcases List.mem_cons.mp hb with e | e
    · rw [e]; exact lt
    · rw [List.mem_singleton.mp e]
      exact Nat.lt_trans tlt lt
  · rw [at1 _ z] at cl
    exact Nat.lt_irrefl _ cl
  · constructor
    · intro B E' i v z m _ _ _ _ _ _ _
      rw [List.forIn_nil]
      exact wpAny_pure ⟨rfl, keeps_refl _⟩
    · intro B E' i v z m hB hD hU hv _ hn hm hk
      have hi2 : i < ds.length := by
        have := (Array.getElem?_eq_some_iff.mp hv).1
        omega
      have hdi : ds[i]? = some ds[i] := List.getElem?_eq_getElem hi2
      obtain ⟨v', hv', rv'⟩ := hva.get hdi
      have ev : v' = v := by
        rw [Array.getElem?_toList, hv] at hv'
        exact (Option.some.inj hv').symm
      rw [ev] at rv'
      have keepA : ∀ b o, b ≠ P → s1.heap.get? b = some o → z.heap.get? b = some o := fun b o nb e => by
        have lb : b < s1.heap.objs.size := Heap.lt_size e
        refine hk b (List.mem_range.mpr (Nat.lt_trans lb lt)) (fun q => ?_) _ (hh _ _ (up0 b o nb e))
        rw [at1 b q] at lb
        exact Nat.lt_irrefl _ lb
      have room : Room k B := ⟨hB, by have := hr.dp; omega, by have := hr.un; omega⟩
      -- what is read of the element stands in z's heap
      have rz : Vd z.heap v ds[i] := by
        obtain ⟨as2, r2⟩ := rv'
        exact ⟨as2, reads_but keepA p0 rfl r2⟩
      refine thn (hel _ m z.heap v ds[i] rfl ⟨I1.mod, S.kind, ?_, rfl⟩ hm rz (szs _ (List.getElem_mem hi2)) B E' z ⟨room, fun b o e => ?_, fun _ _ e => e, hn⟩) fun y z' r => ⟨⟨_, hdi, vd_bool r.1⟩, r.2⟩
      · exact I1.ok.glob
      · obtain ⟨e1, e2⟩ := I1.bs b o e
        exact keepA b o (fun q => by rw [q, hP] at e2; cases e2) e1
  · intro g h5 tk5 gs gb ag sz5 k5 W5 hat
    simp only [GxR.passing_true, List.length_range] at W5
    rw [hsz] at W5 hat
    refine hQ ds H1 g _ q1 ⟨_, _, _, _, _, W5.in4_1, hat, ?_, fun s' mv => ?_⟩
    · rintro j y z Q' E' ⟨i, hij, d, hd2, rfl⟩ q
      obtain ⟨hj, ej⟩ := List.getElem?_eq_some_iff.mp hij
      rw [List.getElem_range] at ej
      cases ej
      have q' : Q' (trD pb ds j) z := q
      unfold trD at q'
      rw [hd2] at q'
      exact wpAny_truthy_bool q'
    · have nw : ∀ b u, s1.heap.get? b = some u → b ∉ h3.objs.size :: [s1.heap.objs.size] := fun b u e hb => by
        have l := Heap.lt_size e
        have l2 : s1.heap.objs.size < h3.objs.size := lt
        rcases List.mem_cons.mp hb with z | z
        · rw [z] at l
          exact Nat.lt_asymm l l2
        · rw [at1 b z] at l
          exact Nat.lt_irrefl _ l
      have J := inv_tab (more := more) (h' := s'.heap) (g' := s'.gens) (d' := s'.drawn) (t' := s'.toks) I1 hP (fun b u n e => mv.heap b u (nw b u e) (k5 b u (up0 b u n e))) (mv.heap P _ (nw P _ p0) (k5 P _ hp)) (AllBare.movedS (I1.bare.push gb) mv)
      have es : ({ s1 with heap := s'.heap, gens := s'.gens, drawn := s'.drawn, toks := s'.toks } : Shared) = s' := by
        obtain ⟨_, _, _, _, _⟩ := s'
        have := mv.os
        dsimp only at this
        rw [this]
      rw [es] at J
      exact ⟨upd H1 P (.tbl (ps ++ more)), ⟨⟨_, upd_same, ht'⟩, fun b hb => upd_ne hb⟩, J⟩
def tAllD (K : PySem.W.Frag) (P : Addr) (pb : PyData → Bool) (te : TE) : TE := fun σ H Q => te σ H fun v H1 => ∃ ds, Dq K H1 v (.tuple ds) ∧ TabG H1 P ∧ ∀ H2, Tabbed P H1 H2 → Q (.bl (ds.all pb)) H2
/-- all(elt for x in e), e a tuple of data -/
theorem pe_allD {c P : Addr} {elt iter : Expr} {x : Str} {px p pos gpos : Pos} {scope : Scope} {pb : PyData → Bool} {te : TE} {k : Nat}
    (hr : Room (k + 1) X.A) (hg : Gl X "all") (hm : X.mg "all" = none) (TB : TabB X.base X.mg c P) (hcode : X.env.code = .ref c) (S : GenS X.env scope x) (hi : PE X iter te) (hel : EltD X k scope x elt pb)
    (hs : ∀ v, genFold iter X.env v = pure v)
    (he : starEach [.GeneratorExp elt [⟨.Name x px, iter, [], 0⟩] scope gpos] X.env = (false, eval (.GeneratorExp elt [⟨.Name x px, iter, [], 0⟩] scope gpos) X.env) :: starEach [] X.env := by rfl) :
    PE X (.Call (.Name "all" p) [.GeneratorExp elt [⟨.Name x px, iter, [], 0⟩] scope gpos] [] pos) (tAllD X.K P pb te) := by
  refine ⟨fun pins s σ H Q I h => wpAny_Call_Name_kw (ld_blt I hg hm boot_all (PyProof.Rows.callWith_builtin1 ?_ he (by rfl)))⟩
  rw [he]
  show wpAny _ _ (spliced ((false, eval (.GeneratorExp elt [⟨.Name x px, iter, [], 0⟩] scope gpos) X.env) :: backTo pos (starEach [] X.env))) _ _ s
  refine Calls.spliced_cons (genD (R := fun ds H1 => ∀ H2, Tabbed P H1 H2 → Q (.bl (ds.all pb)) H2) hr TB hcode S hi hel hs I h ?_)
  rintro ds H1 g z hR ⟨fp, wr, G, F, St, W, hst, htr, hI⟩
  refine Calls.spliced_nil (call_all_walkS (W.self 0 _ _ _ hst ⟨g, fp, wr, G, _, F, St, _, rfl, W, hst, htr, fun s' mv => ?_⟩))
  obtain ⟨H2, hT, J⟩ := hI s' mv
  rw [trD_all pb ds]
  exact ⟨.bl _, H2, J, rfl, hR H2 hT⟩
end
end Gr

set_option Elab.async false
set_option maxRecDepth 100000
set_option maxHeartbeats 4000000
set_option linter.all false
/-! Ours: values of any kind as data; tables of generators, any number of them; what stands beside a well. -/
namespace Gr
open PySem PySem.Spec PyProof.Rows L2 GxR
mutual
/-- a value that is data -/
inductive Od (H : Hp) : V → PyData → Prop
  | non : Od H .non .none
  | bl (b : Bool) : Od H (.bl b) (.bool b)
  | int (i : Int) : Od H (.int i) (.int i)
  | str (x : Str) : Od H (.str x) (.str x)
  | lst {a : Addr} {xs : List V} {ds : List PyData} : H a = some (.lst xs) → OdAll H xs ds → Od H (.ref a) (.list ds)
  | tup {a : Addr} {xs : List V} {ds : List PyData} : H a = some (.tup xs) → OdAll H xs ds → Od H (.ref a) (.tuple ds)
  | dic {a : Addr} {kvs : List (Key × V)} {ds : List (PyData × PyData)} : H a = some (.dK kvs) → OdAll H (kvs.map fun p => kV p.1) (ds.map (·.1)) → OdAll H (kvs.map (·.2)) (ds.map (·.2)) → Od H (.ref a) (.dict ds)
inductive OdAll (H : Hp) : List V → List PyData → Prop
  | nil : OdAll H [] []
  | cons {v : V} {vs : List V} {d : PyData} {ds : List PyData} : Od H v d → OdAll H vs ds → OdAll H (v :: vs) (d :: ds)
end
mutual
theorem Od.same {H H' : Hp} (s : Same H H') : ∀ {v : V} {d : PyData}, Od H v d → Od H' v d
  | _, _, .non => .non
  | _, _, .bl b => .bl b
  | _, _, .int i => .int i
  | _, _, .str x => .str x
  | _, _, .lst e a => .lst (s _ _ e) (OdAll.same s a)
  | _, _, .tup e a => .tup (s _ _ e) (OdAll.same s a)
  | _, _, .dic e a b => .dic (s _ _ e) (OdAll.same s a) (OdAll.same s b)
theorem OdAll.same {H H' : Hp} (s : Same H H') : ∀ {vs : List V} {ds : List PyData}, OdAll H vs ds → OdAll H' vs ds
  | _, _, .nil => .nil
  | _, _, .cons a b => .cons (Od.same s a) (OdAll.same s b)
end
mutual
theorem Od.dq {K : PySem.W.Frag} {H : Hp} : ∀ {v : V} {d : PyData}, Od H v d → Dq K H v d
  | _, _, .non => .non
  | _, _, .bl b => .bl b
  | _, _, .int i => .int i
  | _, _, .str x => .str x
  | _, _, .lst e a => .lst (SqL.of e) (OdAll.dq a)
  | _, _, .tup e a => .tup (SqT.of e) (OdAll.dq a)
  | _, _, .dic e a b => .dic e (OdAll.dq a) (OdAll.dq b)
theorem OdAll.dq {K : PySem.W.Frag} {H : Hp} : ∀ {vs : List V} {ds : List PyData}, OdAll H vs ds → DqAll K H vs ds
  | _, _, .nil => .nil
  | _, _, .cons a b => .cons (Od.dq a) (OdAll.dq b)
end
theorem OdAll.len {H : Hp} : ∀ {vs : List V} {ds : List PyData}, OdAll H vs ds → vs.length = ds.length
  | _, _, .nil => rfl
  | _, _, .cons _ b => congrArg (· + 1) (OdAll.len b)
def tyD : PyData → String
  | .none => "NoneType"
  | .bool _ => "bool"
  | .int _ => "int"
  | .str _ => "str"
  | .list _ => "list"
  | .tuple _ => "tuple"
  | .dict _ => "dict"
theorem Od.ty {K : PySem.W.Frag} {H : Hp} {v : V} {d : PyData} (h : Od H v d) : TyX K H v (.type (tyD d)) := by
  cases h with
  | non => exact .base .non
  | bl b => exact .base (.bl b)
  | int i => exact .base (.int i)
  | str x => exact .base (.str x)
  | lst e _ => exact .base (.lst e)
  | tup e _ => exact .base (.tup e)
  | dic e _ _ => exact .base (.dK e)
def isIntD : PyData → Bool
  | .bool _ => true
  | .int _ => true
  | _ => false
def isBoolD : PyData → Bool
  | .bool _ => true
  | _ => false
def isStrD : PyData → Bool
  | .str _ => true
  | _ => false
def isTupD : PyData → Bool
  | .tuple _ => true
  | _ => false
theorem kInt {K : PySem.W.Frag} (d : PyData) : PySem.W.kitOne K (.type (tyD d)) (.type "int") = some (isIntD d) := by
  cases d <;> (refine kit_ty ?_; simp only [tyD, isIntD]; decide +kernel)
theorem kBool {K : PySem.W.Frag} (d : PyData) : PySem.W.kitOne K (.type (tyD d)) (.type "bool") = some (isBoolD d) := by
  cases d <;> (refine kit_ty ?_; simp only [tyD, isBoolD]; decide +kernel)
theorem kStr {K : PySem.W.Frag} (d : PyData) : PySem.W.kitOne K (.type (tyD d)) (.type "str") = some (isStrD d) := by
  cases d <;> (refine kit_ty ?_; simp only [tyD, isStrD]; decide +kernel)
theorem kTup {K : PySem.W.Frag} (d : PyData) : PySem.W.kitOne K (.type (tyD d)) (.type "tuple") = some (isTupD d) := by
  cases d <;> (refine kit_ty ?_; simp only [tyD, isTupD]; decide +kernel)
def wholeD : PyData → Bool
  | .int _ => true
  | _ => false
def spWhole : Sp := fun vs H Q _ => ∃ v d, vs = [v] ∧ Od H v d ∧ Q (.bl (wholeD d)) H
def betwD (d : PyData) (lo hi : Int) : Bool := match d with
  | .int n => decide (lo ≤ n) && decide (n ≤ hi)
  | _ => false
def spBetw : Sp := fun vs H Q _ => ∃ v d lo hi, vs = [v, .int lo, .int hi] ∧ Od H v d ∧ Q (.bl (betwD d lo hi)) H
def rowD (d : PyData) (lo hi : Int) : Bool := match d with
  | .tuple ds => decide (lo ≤ (ds.length : Nat)) && decide (((ds.length : Nat) : Int) ≤ hi)
  | _ => false
def spRow : Sp := fun vs H Q _ => ∃ v d lo hi, vs = [v, .int lo, .int hi] ∧ Od H v d ∧ Q (.bl (rowD d lo hi)) H

/-! ### tables -/
def Tb (ps : List Addr) (H : Hp) : Prop := ∀ p ∈ ps, TabG H p
/-- but for the tables all is as it was -/
def UpL (ps : List Addr) (H H' : Hp) : Prop := Tb ps H' ∧ ∀ b, b ∉ ps → ∀ o, H b = some o → H' b = some o
def Stay (H H' : Hp) : Prop := ∀ a o, H a = some o → (∀ ps, o ≠ .tbl ps) → H' a = some o
theorem tabG_same {H H1 : Hp} {p : Addr} (h : TabG H p) (s : Same H H1) : TabG H1 p := let ⟨ps, a, b⟩ := h; ⟨ps, s _ _ a, b⟩
theorem tabG_tab {H H1 : Hp} {p q : Addr} (h : TabG H q) (t : Tabbed p H H1) : TabG H1 q := by
  by_cases e : q = p
  · rw [e]
    exact t.1
  · obtain ⟨ps, a, b⟩ := h
    exact ⟨ps, (t.2 _ e).trans a, b⟩
section
variable {ps : List Addr} {H H1 H2 : Hp}
theorem Tb.same (h : Tb ps H) (s : Same H H1) : Tb ps H1 := fun p hp => tabG_same (h p hp) s
theorem UpL.refl (h : Tb ps H) : UpL ps H H := ⟨h, fun _ _ _ e => e⟩
theorem UpL.trans (a : UpL ps H H1) (b : UpL ps H1 H2) : UpL ps H H2 := ⟨b.1, fun x n o e => b.2 x n o (a.2 x n o e)⟩
theorem UpL.same (h : Tb ps H) (s : Same H H1) : UpL ps H H1 := ⟨h.same s, fun x _ o e => s x o e⟩
theorem UpL.tab {p : Addr} (h : Tb ps H) (t : Tabbed p H H1) (hp : p ∈ ps) : UpL ps H H1 := ⟨fun q hq => tabG_tab (h q hq) t, fun x n o e => (t.2 x (fun z => n (z ▸ hp))).trans e⟩
theorem UpL.stay (h : Tb ps H) (u : UpL ps H H1) : Stay H H1 := fun a o e n => by
  refine u.2 a (fun z => ?_) o e
  obtain ⟨p1, e1, _⟩ := h a z
  rw [e1] at e
  exact n _ (Option.some.inj e).symm
theorem UpL.put {D : Addr} {xs ys : List V} (u : UpL ps H H1) (n : H D = none) (e : H1 D = some (.lst xs)) : UpL ps H (upd H1 D (.lst ys)) := by
  refine ⟨fun p hp => ?_, fun x m o q => ?_⟩
  · obtain ⟨qs, e1, t⟩ := u.1 p hp
    refine ⟨qs, (upd_ne fun z => ?_).trans e1, t⟩
    rw [z, e] at e1
    cases e1
  · rw [upd_ne (ne_of_none q n)]
    exact u.2 x m o q
end
mutual
theorem Od.stay {H H' : Hp} (s : Stay H H') : ∀ {v : V} {d : PyData}, Od H v d → Od H' v d
  | _, _, .non => .non
  | _, _, .bl b => .bl b
  | _, _, .int i => .int i
  | _, _, .str x => .str x
  | _, _, .lst e a => .lst (s _ _ e (fun _ q => nomatch q)) (OdAll.stay s a)
  | _, _, .tup e a => .tup (s _ _ e (fun _ q => nomatch q)) (OdAll.stay s a)
  | _, _, .dic e a b => .dic (s _ _ e (fun _ q => nomatch q)) (OdAll.stay s a) (OdAll.stay s b)
theorem OdAll.stay {H H' : Hp} (s : Stay H H') : ∀ {vs : List V} {ds : List PyData}, OdAll H vs ds → OdAll H' vs ds
  | _, _, .nil => .nil
  | _, _, .cons a b => .cons (Od.stay s a) (OdAll.stay s b)
end
theorem cutV_to (xs : List V) (n : Nat) : cutV xs none (some (n : Int)) = xs.take n := by
  unfold cutV
  rw [HT.sIx_none, HT.sIx_nat, List.drop_zero, Nat.sub_zero]
  by_cases h : n ≤ xs.length
  · rw [Nat.min_eq_left h]
  · rw [Nat.min_eq_right (by omega), List.take_of_length_le (Nat.le_refl _), List.take_of_length_le (by omega)]
theorem cutV_from (xs : List V) (n : Nat) : cutV xs (some (n : Int)) none = xs.drop n := by
  unfold cutV
  rw [HT.sIx_none, HT.sIx_nat]
  by_cases h : n ≤ xs.length
  · rw [Nat.min_eq_left h]
    exact List.take_of_length_le (by rw [List.length_drop]; exact Nat.le_refl _)
  · rw [Nat.min_eq_right (by omega), List.drop_of_length_le (Nat.le_refl _), List.drop_of_length_le (by omega), List.take_nil]
theorem OdAll.take {H : Hp} : ∀ {vs : List V} {ds : List PyData} (n : Nat), OdAll H vs ds → OdAll H (vs.take n) (ds.take n)
  | _, _, 0, _ => by rw [List.take_zero, List.take_zero]; exact .nil
  | _, _, n + 1, .nil => by rw [List.take_nil, List.take_nil]; exact .nil
  | _, _, n + 1, .cons a b => .cons a (OdAll.take n b)
theorem OdAll.drop {H : Hp} : ∀ {vs : List V} {ds : List PyData} (n : Nat), OdAll H vs ds → OdAll H (vs.drop n) (ds.drop n)
  | _, _, 0, h => h
  | _, _, n + 1, .nil => by rw [List.drop_nil, List.drop_nil]; exact .nil
  | _, _, n + 1, .cons a b => OdAll.drop n b
theorem OdAll.app {H : Hp} : ∀ {vs ws : List V} {ds es : List PyData}, OdAll H vs ds → OdAll H ws es → OdAll H (vs ++ ws) (ds ++ es)
  | _, _, _, _, .nil, h => h
  | _, _, _, _, .cons a b, h => .cons a (OdAll.app b h)
/-- the heap without some addresses -/
def hide (H : Hp) (ls : List Addr) : Hp := fun a => if a ∈ ls then none else H a
theorem hide_same (H : Hp) (ls : List Addr) : Same (hide H ls) H := fun a o e => by
  unfold hide at e
  split at e
  · cases e
  · exact e
theorem same_hide {H H' : Hp} (ls : List Addr) (s : Same H H') : Same (hide H ls) (hide H' ls) := fun a o e => by
  unfold hide at e ⊢
  split at e
  · cases e
  · rename_i n
    rw [if_neg n]
    exact s _ _ e
theorem hide_at {H : Hp} {ls : List Addr} {a : Addr} {o : HO} (e : H a = some o) (n : a ∉ ls) : hide H ls a = some o := by
  unfold hide
  rw [if_neg n]
  exact e
theorem not_hidden {H : Hp} {ls : List Addr} (h : ∀ l ∈ ls, H l ≠ none) {a : Addr} (e : H a = none) : a ∉ ls := fun q => h a q e
def Lit (te : TE) (d : PyData) : Prop := ∀ (ls : List Addr) (σ : L2.St) (H : Hp) (Q : VK), (∀ l ∈ ls, H l ≠ none) → (∀ v H', Same H H' → Od (hide H' ls) v d → Q v H') → te σ H Q
def Lits (ta : TA) (ds : List PyData) : Prop := ∀ (ls : List Addr) (σ : L2.St) (H : Hp) (Q : List V → Hp → Prop), (∀ l ∈ ls, H l ≠ none) → (∀ vs H', Same H H' → OdAll (hide H' ls) vs ds → Q vs H') → ta σ H Q
theorem keep_ls {H H' : Hp} {ls : List Addr} (h : ∀ l ∈ ls, H l ≠ none) (s : Same H H') : ∀ l ∈ ls, H' l ≠ none := fun l hl q => by
  cases e : H l with
  | none => exact h l hl e
  | some o => rw [s _ _ e] at q; cases q
theorem lit_int (i : Int) : Lit (tC (.int i)) (.int i) := fun _ _ _ _ _ k => k _ _ (.refl _) (.int i)
theorem lit_str (x : Str) : Lit (tC (.str x)) (.str x) := fun _ _ _ _ _ k => k _ _ (.refl _) (.str x)
theorem lit_bl (b : Bool) : Lit (tC (.bl b)) (.bool b) := fun _ _ _ _ _ k => k _ _ (.refl _) (.bl b)
theorem lit_non : Lit (tC .non) .none := fun _ _ _ _ _ k => k _ _ (.refl _) .non
theorem lits_nil : Lits tNil [] := fun _ _ _ _ _ k => k _ _ (.refl _) .nil
theorem lits_cons {te : TE} {ta : TA} {d : PyData} {ds : List PyData} (h1 : Lit te d) (h2 : Lits ta ds) : Lits (tCons te ta) (d :: ds) := fun ls σ H Q hl k =>
  h1 ls σ H _ hl fun v H1 s1 o1 => h2 ls σ H1 _ (keep_ls hl s1) fun vs H2 s2 o2 => k _ _ (s1.trans s2) (.cons (o1.same (same_hide ls s2)) o2)
theorem lit_tup {ta : TA} {ds : List PyData} (h : Lits ta ds) (n : ds.length ≤ 60) : Lit (tTup ta) (.tuple ds) := fun ls σ H Q hl k =>
  h ls σ H _ hl fun vs H1 s1 o1 => ⟨by have := o1.len; have mz : 5000 ≤ sizeLine := by decide
                                       omega, fun p hp => k _ _ (s1.trans (same_upd hp)) (.tup (hide_at upd_same (not_hidden (keep_ls hl s1) hp)) (o1.same (same_hide ls (same_upd hp))))⟩
theorem lit_lst {ta : TA} {ds : List PyData} (h : Lits ta ds) (n : ds.length ≤ 60) : Lit (tLst ta) (.list ds) := fun ls σ H Q hl k =>
  h ls σ H _ hl fun vs H1 s1 o1 => ⟨by have := o1.len; have mz : 5000 ≤ sizeLine := by decide
                                       omega, fun p hp => k _ _ (s1.trans (same_upd hp)) (.lst (hide_at upd_same (not_hidden (keep_ls hl s1) hp)) (o1.same (same_hide ls (same_upd hp))))⟩
theorem lit_d0 : Lit tDNewK (.dict []) := fun ls σ H Q hl k p hp => k _ _ (same_upd hp) (.dic (hide_at upd_same (not_hidden hl hp)) .nil .nil)
theorem lit_dx : Lit (tDisp [(tC (.str "x"), tC (.int 1))]) (.dict [(.str "x", .int 1)]) := fun ls σ H Q hl k p hp => by
  refine ⟨upd_same, [(Sum.inr "x", .int 1)], rfl, by decide, ?_⟩
  have e : upd (upd H p (.dK [])) p (.dK (mergeK [] [(Sum.inr "x", .int 1)])) = upd H p (.dK [(Sum.inr "x", .int 1)]) := by
    funext b
    unfold upd
    by_cases h : b = p <;> simp [h] <;> rfl
  rw [e]
  exact k _ _ (same_upd hp) (.dic (hide_at upd_same (not_hidden hl hp)) (.cons (.str _) .nil) (.cons (.int _) .nil))

def hasOne (i : Int) : List PyData → Bool
  | [] => false
  | .int j :: l => (j == i) || hasOne i l
  | _ :: l => hasOne i l
/-- one thing told of any value -/
def spD (ps : List Addr) (dom : PyData → Prop) (f : PyData → Bool) : Sp := fun vs H Q _ => ∃ v d, vs = [v] ∧ Od H v d ∧ dom d ∧ Tb ps H ∧ ∀ H', UpL ps H H' → Q (.bl (f d)) H'
end Gr

set_option Elab.async false
set_option maxRecDepth 100000
set_option maxHeartbeats 4000000
set_option linter.all false
/-! Ours: enumerate over a tuple; a promise with less asked. -/
namespace Gr
open PySem PySem.Spec PyProof.Rows L2 GxR
theorem fn_imp {P : Program} {w : World} {K : PySem.W.Frag} {mg : Str → Option Value} {base : Heap} {CX : CXT} {k : Nat} {f : Addr} {fd : FuncData} {ps : List Str} {sp sp' : Sp} (F : FnOk P w K mg base CX k f fd ps sp) (h : ∀ vs H Q E, sp' vs H Q E → sp vs H Q E) : FnOk P w K mg base CX k f fd ps sp' :=
  ⟨fun vs H Q E q => F.len vs H Q E (h _ _ _ _ q), fun A outer s H args us vs Q E hr e b r q => F.run A outer s H args us vs Q E hr e b r (h _ _ _ _ q)⟩
set_option maxHeartbeats 1000000 in
theorem enum_new1 {v : Value} {o : Obj} {G : Heap → Prop} (B : Begins v o G) :
    Meets (Builtin.«enumerate.__new__» ⟨[.type "enumerate", v], []⟩) (fun _ R z => G z.heap ∧
      R (.ok (.ret (.ref (z.heap.push o).objs.size))) { z with heap := (z.heap.push o).push { cls := .type "enumerate", data := .fields #[.none, .bool false, .ref z.heap.objs.size, rawInt 0, .none, .none] } }) :=
  .of_wp fun prog w A R z hh => by
    obtain ⟨hp, gg, dd, tk, oo⟩ := z
    obtain ⟨g1, rr⟩ := hh
    have sb := sub_enumerate
    have go : ∀ {A1 : Around} {E1 : Value → Shared → Prop} {Q1 : Value → Shared → Prop}, Q1 (.ref hp.objs.size) ⟨hp.push o, gg, dd, tk, oo⟩ → wpAny (model prog w) A1 (pyIter v) Q1 E1 ⟨hp, gg, dd, tk, oo⟩ := fun q => B.iter prog w _ _ ⟨hp, gg, dd, tk, oo⟩ _ g1 q
    wp_walk using go
    refine wpAny_stack_any fun _ => wpAny_pure ?_
    split
    · rename_i cc _ _ _ _ _
      cases (cc == Value.type "enumerate") <;> (wp_walk using go; exact ⟨_, rfl, rr⟩)
    · wp_walk using go
      exact ⟨_, rfl, rr⟩
theorem enum_call1 {prog : Program} {w : World} {A : Around} {E : Value → Shared → Prop} {z : Shared} {v : Value} {o : Obj} {G : Heap → Prop} {Q : Value → Shared → Prop} (B : Begins v o G) (g1 : G z.heap)
    (hQ : ∀ h', IsEnum h' (z.heap.objs.size + 1) z.heap.objs.size 0 .none → h'.get? z.heap.objs.size = some o → (∀ b u, z.heap.get? b = some u → h'.get? b = some u) → Q (.ref (z.heap.objs.size + 1)) { z with heap := h' }) :
    wpAny (model prog w) A (call (.type "enumerate") [v]) Q E z := by
  have e1 : (z.heap.push o).objs.size = z.heap.objs.size + 1 := Heap.size_push ..
  refine callType_new F.called_enumerate (by decide) (F.typeCall_enumerate_1 _) (F.newCall_enumerate_1 _) (fun ob => F.args_object_init_2 ob _) F.entry_enumerate_new (enum_new1 B) ⟨g1, ?_⟩
  show _ ∧ _
  rw [e1]
  have e2 := Heap.get?_push_size (z.heap.push o) (o := { cls := .type "enumerate", data := .fields #[.none, .bool false, .ref z.heap.objs.size, rawInt 0, .none, .none] }) rfl
  rw [e1] at e2
  exact ⟨⟨_, e2, rfl⟩, hQ _ e2 (Heap.get?_push_of_some _ (Heap.get?_push_size _ B.free)) fun b u q => Heap.get?_push_of_some _ (Heap.get?_push_of_some _ q)⟩
/-- pairs (i, the item at i) of a tuple, each a new one -/
def Itp (K : PySem.W.Frag) (a : Addr) (xs : List V) : It := ⟨fun i H => SqT K H a xs ∧ i < xs.length, fun i H v H' => ∃ T x, v = .ref T ∧ H T = none ∧ H' = upd H T (.tup [.int (i : Nat), x]) ∧ xs[i]? = some x, fun i H => SqT K H a xs ∧ xs.length = i⟩
def YTp (xs : List V) : Nat → Hp → V → Hp → Prop := fun i H v H' => ∃ T x, v = .ref T ∧ H T = none ∧ H' = upd H T (.tup [.int (i : Nat), x]) ∧ xs[i]? = some x
theorem walk_tp {K : PySem.W.Frag} {a : Addr} {xs : List V} : Walk (Itp K a xs) xs.length (fun H => SqT K H a xs) (YTp xs) :=
  ⟨fun _ _ hi q => ⟨q, hi⟩, fun _ q => ⟨q, rfl⟩, fun _ _ _ _ _ _ y => y⟩
theorem turn_tp {P : Program} {w : World} {K : PySem.W.Frag} {elts : List Expr} {kk : Nat} {tpos : Pos} {e it a : Addr} {xs : List V} :
    Turn P w K (.Tuple elts kk tpos) (Itp K a xs) [e, it] e (fun i h => (∃ old, IsEnum h e it ((i : Nat) : Int) old) ∧ h.IsTupleIter it a i ∧ e ≠ it ∧ a ≠ it ∧ a ≠ e) where
  mem := List.mem_cons_self
  obj := by
    rintro i h ⟨⟨old, he⟩, ⟨o, ho, hc, hd⟩, _⟩ b hb
    rcases List.mem_cons.mp hb with z | z
    · rw [z]
      exact ⟨_, he, fun v q => nomatch q⟩
    · rw [List.mem_singleton.mp z]
      exact ⟨o, ho, fun v q => by rw [hd] at q; cases q⟩
  keep := by
    rintro i h h' ⟨⟨old, he⟩, ⟨o, ho, r⟩, ne⟩ k
    exact ⟨⟨old, k e (List.mem_cons_self) _ he⟩, ⟨o, k it (by simp) _ ho, r⟩, ne⟩
  item := by
    intro X hP hw hK hc i pins s σ H E I hf st hg
    subst hP hw hK
    obtain ⟨⟨old, he⟩, hit, ne, na, nae⟩ := st
    obtain ⟨hT0, hi⟩ := hg
    obtain ⟨its, rv, pl, hz0⟩ := I.tuple hT0
    have gx : xs[i]? = some xs[i] := List.getElem?_eq_getElem hi
    obtain ⟨uv, hu0, ru⟩ := paired_at rv gx
    have el : e < s.heap.objs.size := Heap.lt_size he
    have il : it < s.heap.objs.size := let ⟨_, q, _⟩ := hit; Heap.lt_size q
    have n1 : i < its.toArray.size := by rw [List.size_toArray, ← paired_len rv]; exact hi
    refine wpAny_pyNext_enum_itemC (Draws.tuple (A := X.A.in1) (I.ok.hd hc) it a na its.toArray) he ⟨hit, pl⟩ n1 ne (fun z => ?_) fun u h' tk hu ho hit' hT hz hk => ?_
    · rcases List.mem_cons.mp z with z | z
      · exact ne z
      · exact nae (List.mem_singleton.mp z).symm
    have eu : u = uv := by
      have : its[i]? = some u := (List.getElem?_toArray (xs := its) (i := i)).symm.trans hu
      rw [hu0] at this
      exact (Option.some.inj this).symm
    refine ⟨_, rfl, wpAny_letOwnedTupleGo_enum (s := { s with heap := h', toks := tk + 1 }) ho fun h'' he' sb => ?_⟩
    have nT : s.heap.objs.size ≠ e := Nat.ne_of_gt el
    have hT2 : h''.get? s.heap.objs.size = some { cls := .type "tuple", data := .seq #[.int ((i : Nat) : Int) tk, u] } := (sb.2 _ nT).trans hT
    have new : ObjOk X.prog X.w (upd H s.heap.objs.size (.tup [.int (i : Nat), xs[i]])) h'' s.heap.objs.size (.tup [.int (i : Nat), xs[i]]) :=
      ⟨by show 2 ≤ sizeLine; decide, _, .cons ⟨_, rfl⟩ (.cons (eu ▸ ru) .nil), ⟨_, hT2, rfl, _, rfl⟩⟩
    have I1 : Inv X pins σ (upd H s.heap.objs.size (.tup [.int (i : Nat), xs[i]])) { s with heap := h'', toks := tk + 1 } := by
      refine I.turnedNew (ch := [e, it]) (fun b ob hb q => ?_) hf (Nat.le_refl _) new
      have n1 : b ≠ e := fun z => hb (z ▸ List.mem_cons_self)
      have n2 : b ≠ it := fun z => hb (by rw [z]; exact List.mem_cons_of_mem _ List.mem_cons_self)
      exact (sb.2 b n1).trans (hk b ob n1 n2 q)
    refine ⟨.ref s.heap.objs.size, _, I1, rfl, ⟨_, _, rfl, I.hok.fresh (Nat.le_refl _), rfl, gx⟩, ⟨⟨u, ?_⟩, ?_, ne, na, nae⟩, fun b hb => ?_⟩
    · have q : ((i + 1 : Nat) : Int) = (i : Int) + 1 := by omega
      rw [q]
      exact he'
    · obtain ⟨o, q, r⟩ := hit'.1
      exact ⟨o, (sb.2 it (Ne.symm ne)).trans q, r⟩
    · have lb : b < s.heap.objs.size := by
        rcases List.mem_cons.mp hb with z | z
        · rw [z]
          exact el
        · rw [List.mem_singleton.mp z]
          exact il
      rw [upd_ne (Nat.ne_of_lt lb)]
      exact (hf b hb).1
  done := by
    intro X hP hw hK hc i pins s σ H E I hf st hg
    subst hP hw hK
    obtain ⟨⟨old, he⟩, hit, ne, na, nae⟩ := st
    obtain ⟨hT0, hi⟩ := hg
    subst hi
    obtain ⟨its, rv, pl, hz0⟩ := I.tuple hT0
    have D := Draws.tuple (prog := X.prog) (w := X.w) (A := X.A.in1) (I.ok.hd hc) it a na its.toArray
    have n1 : its.toArray.size = xs.length := by rw [List.size_toArray, ← paired_len rv]
    obtain ⟨f0, f1, f2, f3, f4, f5⟩ := hf it (by simp)
    rw [n1] at D
    exact wpAny_pyNext_enum_endD D he ⟨hit, pl⟩ fun h' eb => ⟨rfl, I.turned (t' := s.toks) (fun b o hb q => eb b o hb q) f0 f1 f3 f4 f5⟩
  self := fun A i s Q E ⟨⟨_, he⟩, _⟩ h => wpAny_pyIter_enum he h
/-- enumerate(e), e a tuple -/
def iEnumT (K : PySem.W.Frag) (ta : TA) : TI := fun σ H R => ta σ H fun vs H1 => ∃ a xs, vs = [.ref a] ∧ SqT K H1 a xs ∧ R (Itp K a xs) H1
theorem pi_enumT {X : Cx} {e : Expr} {ta : TA} {p pos tpos : Pos} {elts : List Expr} {kk : Nat} (hg : Gl X "enumerate") (hm : X.mg "enumerate" = none) (ha : PA X [e] ta) (hs : starEach [e] X.env = [(false, eval e X.env)] := by rfl) :
    PI X (.Tuple elts kk tpos) (.Call (.Name "enumerate" p) [e] [] pos) (iEnumT X.K ta) := by
  refine ⟨fun pins s σ H R I h => Call_ (ld_blt I hg hm boot_enumerate (PyProof.Rows.callWith_type1 (thn (ha.run pos pins s σ H _ I h) ?_) hs rfl))⟩
  rintro us s1 ⟨vs, H1, I1, r1, a, xs, rfl, hT0, q⟩
  obtain ⟨u, rfl, ru⟩ := vals1 r1
  cases ru
  obtain ⟨its, rv, pl, hz0⟩ := I1.tuple hT0
  have la : a < s1.heap.objs.size := let ⟨_, q, _⟩ := pl; Heap.lt_size q
  refine enum_call1 (begins_tuple a its.toArray) pl fun h' he ho hk => wpAny_pyIter_enum he ⟨_, [s1.heap.objs.size + 1, s1.heap.objs.size], _, _, H1, rfl, I1.kept (t' := s1.toks) hk, turn_tp (a := a) (xs := xs), ⟨⟨.none, he⟩, ⟨_, ho, rfl, rfl⟩, Nat.succ_ne_self _, Nat.ne_of_lt la, Nat.ne_of_lt (Nat.lt_succ_of_lt la)⟩, fun b hb => ?_, q⟩
  have lb : s1.heap.objs.size ≤ b := by
    rcases List.mem_cons.mp hb with z | z
    · rw [z]
      exact Nat.le_succ _
    · rw [List.mem_singleton.mp z]
      exact Nat.le_refl _
  exact I1.fpOk lb (I1.hok.fresh lb)
end Gr

set_option Elab.async false
set_option maxRecDepth 100000
set_option maxHeartbeats 4000000
set_option linter.all false
/-! Ours: max(numbers, default=k). -/
namespace Gr
open PySem PySem.Spec PyProof.Rows L2 GxR
def maxI (k : Int) : List Int → Int
  | [] => k
  | n :: ns => ns.foldl max n
theorem ints_reads {h : Heap} : ∀ {ns : List Int} {us : List Value}, Vals (ns.map V.int) us → ∃ as, ReadsAll h us (ns.map PyData.int) as
  | [], _, .nil => ⟨_, .nil⟩
  | n :: ns, _, .cons r t => by
    obtain ⟨tk, rfl⟩ := r
    obtain ⟨as, q⟩ := ints_reads (ns := ns) t
    exact ⟨_, .cons (.int n tk) q⟩
theorem ints_depth (ns : List Int) : PyData.depthAll (ns.map PyData.int) ≤ 2 := by
  induction ns with
  | nil => simp [PyData.depthAll]
  | cons n l ih =>
    simp only [List.map_cons, PyData.depthAll, PyData.depth]
    omega
theorem ints_alike (ns : List Int) : PySem.W.AlikeAll (ns.map PyData.int) := by
  refine ⟨fun x hx y hy => ?_, fun x hx => ?_⟩
  · obtain ⟨a, _, rfl⟩ := List.mem_map.mp hx
    obtain ⟨b, _, rfl⟩ := List.mem_map.mp hy
    rfl
  · obtain ⟨a, _, rfl⟩ := List.mem_map.mp hx
    exact fun z => nomatch z
def rMaxDef (K : PySem.W.Frag) : List V → List V → Hp → VK → Prop := fun vs zs H Q => ∃ (a : Addr) (ns : List Int) (k : Int), vs = [.ref a] ∧ zs = [.int k] ∧ SqL K H a (ns.map V.int) ∧ Q (.int (maxI k ns)) H
theorem call_maxDef {X : Cx} (hd : X.A.handled = none) (hu : X.A.units + 64 < cLine) : CallRK X (.builtin "max") [("default" : Str)] (rMaxDef X.K) := by
  intro pins s σ H xs zs us ws Q I rx rz h
  obtain ⟨a, ns, k, rfl, rfl, hS, q⟩ := h
  obtain ⟨u, rfl, ru⟩ := vals1 rx
  obtain ⟨uw, rfl, rw2⟩ := vals1 rz
  cases ru
  obtain ⟨t, rfl⟩ := rw2
  obtain ⟨its, rv, pl, hz⟩ := I.list hS
  obtain ⟨as, ra⟩ := ints_reads (h := s.heap) rv
  refine PySem.W.max_list_default (xs := ns.map PyData.int) (d := .int k t) hd pl.isList (by exact ra) (ints_alike ns) (by have := ints_depth ns; omega) (fun e h' tk hk => ?_) (fun y ys i v h' tk bs e hv hr hk => ?_)
  · cases ns with
    | nil => exact ⟨.int k, H, I.kept (t' := tk) hk, ⟨t, rfl⟩, q⟩
    | cons n l => cases e
  · cases ns with
    | nil => cases e
    | cons n l =>
      have e1 : y = .int n := (List.cons.inj e).1.symm
      have e2 : ys = l.map PyData.int := (List.cons.inj e).2.symm
      subst e1
      subst e2
      rw [PySem.W.maxD_ints] at hr
      cases hr
      exact ⟨.int _, H, I.kept (t' := tk) hk, ⟨_, rfl⟩, q⟩
end Gr

set_option Elab.async false
set_option maxRecDepth 100000
set_option maxHeartbeats 4000000
set_option linter.all false
/-! Ours: sum of a tuple of numbers; a walk within a comprehension. -/
namespace Gr
open PySem PySem.Spec PyProof.Rows L2 GxR
def rSumT (K : PySem.W.Frag) : List V → Hp → VK → Prop := fun vs H Q => ∃ (a : Addr) (ns : List Int), vs = [V.ref a] ∧ SqT K H a (ns.map V.int) ∧ Q (.int ns.sum) H
theorem cr_sumT {X : Cx} (hd : X.A.handled = none) : CallR X (.builtin "sum") (rSumT X.K) := by
  intro pins s σ H vs us Q I r h
  obtain ⟨a, ns, rfl, hT, q⟩ := h
  obtain ⟨its, rv, pl, _⟩ := I.tuple hT
  rw [Vals.ref1 r]
  have hI := rv.ints
  obtain ⟨zs, ez⟩ := hI.allInts.items
  have en : numsOf its.toArray.toList = ns := by rw [show its.toArray.toList = its from rfl]; exact hI.numsOf
  rw [ez] at pl en
  rw [nums_intItems] at en
  refine PySem.W.ktm_sumG hd pl fun h' tk t' hk => ?_
  rw [preSum_eq, List.take_of_length_le (by simp), en]
  exact ⟨.int _, H, I.kept hk, ⟨_, rfl⟩, q⟩
/-- a walk's turns, the body told by what it goes on to -/
theorem lp_it {J : It} {n : Nat} {G : Hp → Prop} {Y : Nat → Hp → V → Hp → Prop} (w : Walk J n G Y) {H0 : Hp} {Stop : Hp → Prop} {body : V → Hp → (Hp → Prop) → Prop} (Pv : Nat → Hp → Prop) (h0 : Pv 0 H0) (hG : ∀ i H, i ≤ n → Pv i H → G H)
    (hs : ∀ i x H H', i < n → Pv i H → Y i H x H' → body x H' (Pv (i + 1))) (hd : ∀ H, Pv n H → Stop H) :
    ∃ W : Nat → Nat → Hp → Prop, (∃ m, W 0 m H0) ∧ ∀ i m H, W i m H → (J.stop i H ∧ Stop H) ∨ (J.go i H ∧ ∃ N : Hp → Prop, (∀ H', N H' → ∃ m', m' < m ∧ W (i + 1) m' H') ∧ ∀ x H', J.yld i H x H' → body x H' N) := by
  refine ⟨fun i m H => m = n - i ∧ i ≤ n ∧ Pv i H, ⟨n, by simp, Nat.zero_le _, h0⟩, ?_⟩
  rintro i m H ⟨rfl, le, p⟩
  by_cases lt : i < n
  · exact .inr ⟨w.goes i H lt (hG i H le p), Pv (i + 1), fun H' p' => ⟨n - (i + 1), by omega, rfl, lt, p'⟩, fun x H' y => hs i x H H' lt p (w.yields i H x H' lt (hG i H le p) y)⟩
  · have e : i = n := by omega
    subst e
    exact .inl ⟨w.stops H (hG _ H le p), hd H p⟩
end Gr

set_option Elab.async false
set_option linter.all false
set_option maxRecDepth 100000
set_option maxHeartbeats 4000000
/-! Ours: a tuple times any small number, 0 and 1 among them. -/
namespace Gr
open PySem PySem.Spec PyProof.Rows L2
theorem tuple_mul1 (l : Addr) (items : Array Value) (n : Nat) (dd : Option Addr) (sl : Array (Option Value)) (u : Tok) :
    Meets (Builtin.«tuple.__mul__» ⟨[.ref l, .int 1 u], []⟩) (fun _ R s => s.heap.get? l = some { cls := .type "tuple", dict := dd, data := .seq items n, slots := sl } ∧
      R (.ok (.ret (Value.ref l))) s) :=
  .of_wp fun prog w A R s h => by
    obtain ⟨hp, g, d, tk, os⟩ := s
    obtain ⟨hl, h⟩ := h
    have f1 := AutoSeq1.idx_int
    wp_walk using wpAny_loadPart' hl
    exact ⟨_, rfl, h⟩
theorem tuple_mul0 (l : Addr) (items : Array Value) (n : Nat) (dd : Option Addr) (sl : Array (Option Value)) (u : Tok) (hi : items.isEmpty = false) :
    Meets (Builtin.«tuple.__mul__» ⟨[.ref l, .int 0 u], []⟩) (fun _ R s => s.heap.get? l = some { cls := .type "tuple", dict := dd, data := .seq items n, slots := sl } ∧
      R (.ok (.ret (Value.ref s.heap.objs.size))) { s with heap := s.heap.push { cls := Value.type "tuple", data := Data.seq #[] }, toks := s.toks }) :=
  .of_wp fun prog w A R s h => by
    obtain ⟨hp, g, d, tk, os⟩ := s
    obtain ⟨hl, h⟩ := h
    have f1 := AutoSeq1.idx_int
    wp_walk using wpAny_loadPart' hl
    exact ⟨_, rfl, h⟩
def rRepA (K : PySem.W.Frag) : R2 := fun x y H Q => ∃ l k xs, x = .ref l ∧ y = .int k ∧ SqT K H l xs ∧ xs ≠ [] ∧ 0 ≤ k ∧ k ≤ 1000 ∧ xs.length ≤ 1000 ∧ (k = 1 → Q (.ref l) H) ∧ (k ≠ 1 → ∀ p, H p = none → Q (.ref p) (upd H p (.tup (List.replicate k.toNat xs).flatten)))
section
variable {X : Cx}
theorem op_repA : OpR X (binaryOp .Mult) (rRepA X.K) := by
  intro pins s σ H x y v u Q I rx ry h
  obtain ⟨l, k, xs, rfl, rfl, hT, hne, h1, h2, hz, q1, q2⟩ := h
  by_cases h2k : 2 ≤ k
  · exact op_repT pins s σ H _ _ v u Q I rx ry ⟨l, k, xs, rfl, rfl, hT, hne, h2k, h2, hz, q2 (by omega)⟩
  cases rx
  obtain ⟨t, rfl⟩ := ry
  obtain ⟨its, r, ⟨⟨cls, dd, data, sl⟩, ho, hc, n, hd⟩, hs⟩ := I.tuple hT
  simp only at hc hd
  subst hc hd
  have hle : its.length = xs.length := r.length.symm
  have hn : its ≠ [] := fun e => hne (by
    rw [e] at hle
    exact List.eq_nil_of_length_eq_zero hle.symm)
  have hi : its.toArray.isEmpty = false := by
    cases its with
    | nil => exact absurd rfl hn
    | cons a b => rfl
  by_cases k1 : k = 1
  · subst k1
    refine wpAny_binaryOp_repeat_ref (T := "tuple") (U := "int") (by decide) ⟨_, ho, rfl⟩ (fun s' => typeIs_int s' 1 t) noFill_tuple_mul F.fills_int_mul F.slot_int_rmul repeat_tuple F.slot_int_index.lookup
      (call_meets F.slot_int_rmul (typeIs_int s 1 t) F.entry_int_rmul (F.args_int_rmul_2 _ _) (int_rmul_tuple 1 t l its.toArray n dd sl)
        ⟨ho, rfl, ⟨_, ho, rfl⟩, call_meets F.slot_tuple_mul ⟨_, ho, rfl⟩ F.entry_tuple_mul (F.args_tuple_mul_2 _ _) (tuple_mul1 l its.toArray n dd sl t) ⟨ho, ?_⟩⟩)
    exact ⟨.ref l, H, I, rfl, q1 rfl⟩
  · have k0 : k = 0 := by omega
    subst k0
    refine wpAny_binaryOp_repeat_ref (T := "tuple") (U := "int") (by decide) ⟨_, ho, rfl⟩ (fun s' => typeIs_int s' 0 t) noFill_tuple_mul F.fills_int_mul F.slot_int_rmul repeat_tuple F.slot_int_index.lookup
      (call_meets F.slot_int_rmul (typeIs_int s 0 t) F.entry_int_rmul (F.args_int_rmul_2 _ _) (int_rmul_tuple 0 t l its.toArray n dd sl)
        ⟨ho, rfl, ⟨_, ho, rfl⟩, call_meets F.slot_tuple_mul ⟨_, ho, rfl⟩ F.entry_tuple_mul (F.args_tuple_mul_2 _ _) (tuple_mul0 l its.toArray n dd sl t hi) ⟨ho, ?_⟩⟩)
    refine ⟨.ref s.heap.objs.size, _, I.laid (t' := s.toks) (o := .tup []) (fun b ob q => Heap.get?_push_of_some _ q) (Nat.le_refl _) ?_, rfl, q2 (by decide) _ (I.hok.fresh (Nat.le_refl _))⟩
    exact ⟨Nat.zero_le _, _, .nil, IsTup.new _ _⟩
end
end Gr

set_option Elab.async false
set_option linter.all false
set_option maxRecDepth 100000
set_option maxHeartbeats 4000000
/-! Ours: a tuple == (). -/
namespace Gr
open PySem PySem.Spec PyProof.Rows L2
def rEqT0 (K : PySem.W.Frag) : R2 := fun x y H Q => ∃ a b xs, x = .ref a ∧ y = .ref b ∧ SqT K H a xs ∧ SqT K H b [] ∧ Q (.bl (decide (xs.length = 0))) H
section
variable {X : Cx}
theorem op_eqT0 (hu : X.A.units + 64 < cLine) : OpR X (compareOp .Eq) (rEqT0 X.K) := by
  intro pins s σ H x y v u Q I rx ry h
  obtain ⟨a, b, xs, rfl, rfl, ha, hb, q⟩ := h
  cases rx
  cases ry
  obtain ⟨its, r1, p1, _⟩ := I.tuple ha
  obtain ⟨its2, r2, p2, _⟩ := I.tuple hb
  cases r2
  refine SeqAt.eq_tupleAt (e := fun _ => true) p1 p2 (by omega) (fun j h1 h2 => absurd h2 (Nat.not_lt_zero _)) ⟨.bl _, H, I, rfl, ?_⟩
  have e : ((List.range (min its.toArray.size ([] : List Value).toArray.size)).all (fun _ => true) && its.toArray.size == ([] : List Value).toArray.size) = decide (xs.length = 0) := by
    rw [r1.length, List.size_toArray]
    cases its with
    | nil => rfl
    | cons a l =>
      show (_ && (((a :: l).length) == 0)) = _
      simp
  rw [e]
  exact q
end
end Gr

set_option Elab.async false
set_option maxRecDepth 100000
set_option maxHeartbeats 4000000
set_option linter.all false
namespace KP
open PySem PySem.Spec PyProof.Rows L2 Gr GxR
def top (i : Nat) : Stmt := PySem.Challenge.pw_gentlerounds_k09_limits_hours_and_rows_o.main.body.getD i (.Pass ⟨0, 0, 0, 0⟩)
abbrev s_is_whole : Stmt := top 6
abbrev s_is_between : Stmt := top 7
abbrev s_is_tuple : Stmt := top 8
abbrev s_is_limit : Stmt := top 11
abbrev s_are_limits : Stmt := top 12
abbrev s_are_hours : Stmt := top 13
abbrev s_are_rules : Stmt := top 14
abbrev s_check_limits : Stmt := top 15
abbrev s_is_pattern : Stmt := top 20
abbrev s_is_path_row : Stmt := top 23
abbrev s_fault_in_paths : Stmt := top 24
abbrev s_are_paths : Stmt := top 25
abbrev s_span_of : Stmt := top 27
abbrev s_fit : Stmt := top 28
abbrev s_are_counts : Stmt := top 29
abbrev s_l_well : Stmt := top 31
abbrev s_l_pick : Stmt := top 32
abbrev s_l_one : Stmt := top 33
abbrev s_l_signs : Stmt := top 34
abbrev s_l_alphabet : Stmt := top 35
abbrev s_l_is_whole : Stmt := top 36
abbrev s_l_odd : Stmt := top 37
abbrev s_l_bent : Stmt := top 38
abbrev s_l_is_pattern : Stmt := top 39
abbrev s_l_rows_wrong : Stmt := top 40
abbrev s_l_are_limits : Stmt := top 41
abbrev s_l_are_hours : Stmt := top 42
abbrev s_l_are_rules : Stmt := top 43
abbrev s_l_some_pattern : Stmt := top 44
abbrev s_l_some_rows : Stmt := top 45
abbrev s_l_some_limits : Stmt := top 46
abbrev s_l_some_hours : Stmt := top 47
abbrev s_l_are_counts : Stmt := top 48
abbrev s_l_some_counts : Stmt := top 49
abbrev s_l_value_right : Stmt := top 50
abbrev s_l_right : Stmt := top 51
abbrev s_law : Stmt := top 52
/-- a def whose code object stands at c -/
structure FunC (K : PySem.W.Frag) (x ql : Str) (st : Stmt) (f : Addr) (fd : FuncData) (c : Addr) : Prop where
  ex : ∃ (oc : Value) (od : Option Addr) (kV doc pm : Value) (an : Option Addr) (ct : Value) (osl : Array (Option Value)),
    fd = PySem.W.fnOf x ql (defArgs st) (defBody st) (defScope st) .none kV doc pm an (.ref c) ct ∧ K.lookup f = some ⟨oc, od, .func fd, osl⟩ ∧ PySem.W.codeIn K (.ref c) ql = true
  kp : PySem.W.keepIn K (.ref f) = true
theorem FunC.fun {K : PySem.W.Frag} {x ql : Str} {st : Stmt} {f : Addr} {fd : FuncData} {c : Addr} (F : FunC K x ql st f fd c) : Fun K x ql st f fd := by
  obtain ⟨⟨oc, od, kV, doc, pm, an, ct, osl, e1, e2, e3⟩, kp⟩ := F
  exact ⟨⟨oc, od, kV, doc, pm, an, .ref c, ct, osl, e1, e2, e3⟩, kp⟩
/-- such a def by its body; its code object is known there -/
theorem FunC.ok {P : Program} {w : World} {K : PySem.W.Frag} {mg : Str → Option Value} {base : Heap} {x ql : Str} {st : Stmt} {f c : Addr} {fd : FuncData} {N ps : List Str} {k : Nat} {sp : Sp} (F : FunC K x ql st f fd c) (S : FnScope N ps (defScope st)) (len : ∀ vs H Q E, sp vs H Q E → vs.length = ps.length)
    (hb : ∀ (A : Around) (outer : List Env) (s : Shared) (H : Hp) (vs : List V) (Q : VK) (E : XK), Room k (A.deeper (envOfC ql (defScope st) s.heap.objs.size f (.ref c))) → sp vs H Q E →
      ∃ t, PSs (cxOf CX0 P w K mg base N ql (defScope st) f (.ref c) A outer s H E).nox (defBody st) t ∧ t { nx := fun _ H' => Q .non H', rt := Q } (start N vs) H) : FnOk P w K mg base CX0 (k + 1) f fd ps sp := by
  obtain ⟨oc, od, kV, doc, pm, an, ct, osl, rfl, lk, hcd⟩ := F.ex
  refine fn_of lk hcd S len fun A outer s H vs Q E hr hsp => ?_
  obtain ⟨t, h, q⟩ := hb A outer s H vs Q E hr hsp
  exact ⟨t, h.nox, q⟩
structure D (K : PySem.W.Frag) (mg : Str → Option Value) where
  f_is_whole : Addr
  d_is_whole : FuncData
  U_is_whole : Fun K "is_whole" "is_whole" s_is_whole f_is_whole d_is_whole
  g_is_whole : mg "is_whole" = some (.ref f_is_whole)
  f_is_between : Addr
  d_is_between : FuncData
  U_is_between : Fun K "is_between" "is_between" s_is_between f_is_between d_is_between
  g_is_between : mg "is_between" = some (.ref f_is_between)
  f_is_tuple : Addr
  d_is_tuple : FuncData
  U_is_tuple : Fun K "is_tuple" "is_tuple" s_is_tuple f_is_tuple d_is_tuple
  g_is_tuple : mg "is_tuple" = some (.ref f_is_tuple)
  f_is_limit : Addr
  d_is_limit : FuncData
  U_is_limit : Fun K "is_limit" "is_limit" s_is_limit f_is_limit d_is_limit
  g_is_limit : mg "is_limit" = some (.ref f_is_limit)
  f_are_limits : Addr
  d_are_limits : FuncData
  c_are_limits : Addr
  P_are_limits : Addr
  V_are_limits : FunC K "are_limits" "are_limits" s_are_limits f_are_limits d_are_limits c_are_limits
  g_are_limits : mg "are_limits" = some (.ref f_are_limits)
  f_are_hours : Addr
  d_are_hours : FuncData
  c_are_hours : Addr
  P_are_hours : Addr
  V_are_hours : FunC K "are_hours" "are_hours" s_are_hours f_are_hours d_are_hours c_are_hours
  g_are_hours : mg "are_hours" = some (.ref f_are_hours)
  f_are_rules : Addr
  d_are_rules : FuncData
  U_are_rules : Fun K "are_rules" "are_rules" s_are_rules f_are_rules d_are_rules
  g_are_rules : mg "are_rules" = some (.ref f_are_rules)
  f_check_limits : Addr
  d_check_limits : FuncData
  U_check_limits : Fun K "check_limits" "check_limits" s_check_limits f_check_limits d_check_limits
  g_check_limits : mg "check_limits" = some (.ref f_check_limits)
  f_is_pattern : Addr
  d_is_pattern : FuncData
  c_is_pattern : Addr
  P_is_pattern : Addr
  V_is_pattern : FunC K "is_pattern" "is_pattern" s_is_pattern f_is_pattern d_is_pattern c_is_pattern
  g_is_pattern : mg "is_pattern" = some (.ref f_is_pattern)
  f_is_path_row : Addr
  d_is_path_row : FuncData
  U_is_path_row : Fun K "is_path_row" "is_path_row" s_is_path_row f_is_path_row d_is_path_row
  g_is_path_row : mg "is_path_row" = some (.ref f_is_path_row)
  f_fault_in_paths : Addr
  d_fault_in_paths : FuncData
  U_fault_in_paths : Fun K "fault_in_paths" "fault_in_paths" s_fault_in_paths f_fault_in_paths d_fault_in_paths
  g_fault_in_paths : mg "fault_in_paths" = some (.ref f_fault_in_paths)
  f_are_paths : Addr
  d_are_paths : FuncData
  U_are_paths : Fun K "are_paths" "are_paths" s_are_paths f_are_paths d_are_paths
  g_are_paths : mg "are_paths" = some (.ref f_are_paths)
  f_span_of : Addr
  d_span_of : FuncData
  U_span_of : Fun K "span_of" "span_of" s_span_of f_span_of d_span_of
  g_span_of : mg "span_of" = some (.ref f_span_of)
  f_fit : Addr
  d_fit : FuncData
  c_fit : Addr
  P_fit : Addr
  V_fit : FunC K "fit" "fit" s_fit f_fit d_fit c_fit
  g_fit : mg "fit" = some (.ref f_fit)
  f_are_counts : Addr
  d_are_counts : FuncData
  U_are_counts : Fun K "are_counts" "are_counts" s_are_counts f_are_counts d_are_counts
  g_are_counts : mg "are_counts" = some (.ref f_are_counts)
  f_l_well : Addr
  d_l_well : FuncData
  U_l_well : Fun K "_law_well" "_law_well" s_l_well f_l_well d_l_well
  g_l_well : mg "_law_well" = some (.ref f_l_well)
  f_l_pick : Addr
  d_l_pick : FuncData
  U_l_pick : Fun K "_law_pick" "_law_pick" s_l_pick f_l_pick d_l_pick
  g_l_pick : mg "_law_pick" = some (.ref f_l_pick)
  f_l_one : Addr
  d_l_one : FuncData
  U_l_one : Fun K "_law_one" "_law_one" s_l_one f_l_one d_l_one
  g_l_one : mg "_law_one" = some (.ref f_l_one)
  f_l_signs : Addr
  d_l_signs : FuncData
  U_l_signs : Fun K "_law_signs" "_law_signs" s_l_signs f_l_signs d_l_signs
  g_l_signs : mg "_law_signs" = some (.ref f_l_signs)
  f_l_alphabet : Addr
  d_l_alphabet : FuncData
  U_l_alphabet : Fun K "_law_alphabet" "_law_alphabet" s_l_alphabet f_l_alphabet d_l_alphabet
  g_l_alphabet : mg "_law_alphabet" = some (.ref f_l_alphabet)
  f_l_is_whole : Addr
  d_l_is_whole : FuncData
  U_l_is_whole : Fun K "_law_is_whole" "_law_is_whole" s_l_is_whole f_l_is_whole d_l_is_whole
  g_l_is_whole : mg "_law_is_whole" = some (.ref f_l_is_whole)
  f_l_odd : Addr
  d_l_odd : FuncData
  U_l_odd : Fun K "_law_odd" "_law_odd" s_l_odd f_l_odd d_l_odd
  g_l_odd : mg "_law_odd" = some (.ref f_l_odd)
  f_l_bent : Addr
  d_l_bent : FuncData
  U_l_bent : Fun K "_law_bent" "_law_bent" s_l_bent f_l_bent d_l_bent
  g_l_bent : mg "_law_bent" = some (.ref f_l_bent)
  f_l_is_pattern : Addr
  d_l_is_pattern : FuncData
  U_l_is_pattern : Fun K "_law_is_pattern" "_law_is_pattern" s_l_is_pattern f_l_is_pattern d_l_is_pattern
  g_l_is_pattern : mg "_law_is_pattern" = some (.ref f_l_is_pattern)
  f_l_rows_wrong : Addr
  d_l_rows_wrong : FuncData
  U_l_rows_wrong : Fun K "_law_rows_wrong" "_law_rows_wrong" s_l_rows_wrong f_l_rows_wrong d_l_rows_wrong
  g_l_rows_wrong : mg "_law_rows_wrong" = some (.ref f_l_rows_wrong)
  f_l_are_limits : Addr
  d_l_are_limits : FuncData
  U_l_are_limits : Fun K "_law_are_limits" "_law_are_limits" s_l_are_limits f_l_are_limits d_l_are_limits
  g_l_are_limits : mg "_law_are_limits" = some (.ref f_l_are_limits)
  f_l_are_hours : Addr
  d_l_are_hours : FuncData
  U_l_are_hours : Fun K "_law_are_hours" "_law_are_hours" s_l_are_hours f_l_are_hours d_l_are_hours
  g_l_are_hours : mg "_law_are_hours" = some (.ref f_l_are_hours)
  f_l_are_rules : Addr
  d_l_are_rules : FuncData
  U_l_are_rules : Fun K "_law_are_rules" "_law_are_rules" s_l_are_rules f_l_are_rules d_l_are_rules
  g_l_are_rules : mg "_law_are_rules" = some (.ref f_l_are_rules)
  f_l_some_pattern : Addr
  d_l_some_pattern : FuncData
  U_l_some_pattern : Fun K "_law_some_pattern" "_law_some_pattern" s_l_some_pattern f_l_some_pattern d_l_some_pattern
  g_l_some_pattern : mg "_law_some_pattern" = some (.ref f_l_some_pattern)
  f_l_some_rows : Addr
  d_l_some_rows : FuncData
  U_l_some_rows : Fun K "_law_some_rows" "_law_some_rows" s_l_some_rows f_l_some_rows d_l_some_rows
  g_l_some_rows : mg "_law_some_rows" = some (.ref f_l_some_rows)
  f_l_some_limits : Addr
  d_l_some_limits : FuncData
  U_l_some_limits : Fun K "_law_some_limits" "_law_some_limits" s_l_some_limits f_l_some_limits d_l_some_limits
  g_l_some_limits : mg "_law_some_limits" = some (.ref f_l_some_limits)
  f_l_some_hours : Addr
  d_l_some_hours : FuncData
  U_l_some_hours : Fun K "_law_some_hours" "_law_some_hours" s_l_some_hours f_l_some_hours d_l_some_hours
  g_l_some_hours : mg "_law_some_hours" = some (.ref f_l_some_hours)
  f_l_are_counts : Addr
  d_l_are_counts : FuncData
  U_l_are_counts : Fun K "_law_are_counts" "_law_are_counts" s_l_are_counts f_l_are_counts d_l_are_counts
  g_l_are_counts : mg "_law_are_counts" = some (.ref f_l_are_counts)
  f_l_some_counts : Addr
  d_l_some_counts : FuncData
  U_l_some_counts : Fun K "_law_some_counts" "_law_some_counts" s_l_some_counts f_l_some_counts d_l_some_counts
  g_l_some_counts : mg "_law_some_counts" = some (.ref f_l_some_counts)
  f_l_value_right : Addr
  d_l_value_right : FuncData
  U_l_value_right : Fun K "_law_value_right" "_law_value_right" s_l_value_right f_l_value_right d_l_value_right
  g_l_value_right : mg "_law_value_right" = some (.ref f_l_value_right)
  f_l_right : Addr
  d_l_right : FuncData
  U_l_right : Fun K "_law_right" "_law_right" s_l_right f_l_right d_l_right
  g_l_right : mg "_law_right" = some (.ref f_l_right)
  f_law : Addr
  d_law : FuncData
  U_law : Fun K "law" "law" s_law f_law d_law
  g_law : mg "law" = some (.ref f_law)
  t_MOST_ASKS : Tok
  g_MOST_ASKS : mg "MOST_ASKS" = some (.int 6 t_MOST_ASKS)
  t_WIDEST : Tok
  g_WIDEST : mg "WIDEST" = some (.int 12 t_WIDEST)
  t_MOST_PAIRS : Tok
  g_MOST_PAIRS : mg "MOST_PAIRS" = some (.int 4 t_MOST_PAIRS)
  t_SIGNS : Tok
  g_SIGNS : mg "SIGNS" = some (.str "-./0123456789_abcdefghijklmnopqrstuvwxyz" t_SIGNS)
  t_LONGEST_PATTERN : Tok
  g_LONGEST_PATTERN : mg "LONGEST_PATTERN" = some (.int 12 t_LONGEST_PATTERN)
  t_MOST_STARS : Tok
  g_MOST_STARS : mg "MOST_STARS" = some (.int 4 t_MOST_STARS)
  t_MOST_PATHS : Tok
  g_MOST_PATHS : mg "MOST_PATHS" = some (.int 6 t_MOST_PATHS)
  abs : mg "abs" = none
  all : mg "all" = none
  bool : mg "bool" = none
  divmod : mg "divmod" = none
  enumerate : mg "enumerate" = none
  int : mg "int" = none
  isinstance : mg "isinstance" = none
  len : mg "len" = none
  list : mg "list" = none
  max : mg "max" = none
  min : mg "min" = none
  range : mg "range" = none
  repr : mg "repr" = none
  str : mg "str" = none
  sum : mg "sum" = none
  tuple : mg "tuple" = none
namespace D
variable {K : PySem.W.Frag} {mg : Str → Option Value} (T : D K mg)
theorem b_is_whole : Binds K T.d_is_whole ["value"] [] := T.U_is_whole.binds fun _ _ _ _ _ _ us hl => match us, hl with | [_], _ => rfl
theorem b_is_between : Binds K T.d_is_between ["value", "low", "high"] [] := T.U_is_between.binds fun _ _ _ _ _ _ us hl => match us, hl with | [_, _, _], _ => rfl
theorem b_is_tuple : Binds K T.d_is_tuple ["value", "low", "high"] [] := T.U_is_tuple.binds fun _ _ _ _ _ _ us hl => match us, hl with | [_, _, _], _ => rfl
theorem b_is_limit : Binds K T.d_is_limit ["value"] [] := T.U_is_limit.binds fun _ _ _ _ _ _ us hl => match us, hl with | [_], _ => rfl
theorem U_are_limits : Fun K "are_limits" "are_limits" s_are_limits T.f_are_limits T.d_are_limits := T.V_are_limits.fun
theorem b_are_limits : Binds K T.d_are_limits ["value"] [] := T.U_are_limits.binds fun _ _ _ _ _ _ us hl => match us, hl with | [_], _ => rfl
theorem U_are_hours : Fun K "are_hours" "are_hours" s_are_hours T.f_are_hours T.d_are_hours := T.V_are_hours.fun
theorem b_are_hours : Binds K T.d_are_hours ["value"] [] := T.U_are_hours.binds fun _ _ _ _ _ _ us hl => match us, hl with | [_], _ => rfl
theorem b_are_rules : Binds K T.d_are_rules ["value"] [] := T.U_are_rules.binds fun _ _ _ _ _ _ us hl => match us, hl with | [_], _ => rfl
theorem b_check_limits : Binds K T.d_check_limits ["given"] [] := T.U_check_limits.binds fun _ _ _ _ _ _ us hl => match us, hl with | [_], _ => rfl
theorem U_is_pattern : Fun K "is_pattern" "is_pattern" s_is_pattern T.f_is_pattern T.d_is_pattern := T.V_is_pattern.fun
theorem b_is_pattern : Binds K T.d_is_pattern ["value"] [] := T.U_is_pattern.binds fun _ _ _ _ _ _ us hl => match us, hl with | [_], _ => rfl
theorem b_is_path_row : Binds K T.d_is_path_row ["value"] [] := T.U_is_path_row.binds fun _ _ _ _ _ _ us hl => match us, hl with | [_], _ => rfl
theorem b_fault_in_paths : Binds K T.d_fault_in_paths ["value"] [] := T.U_fault_in_paths.binds fun _ _ _ _ _ _ us hl => match us, hl with | [_], _ => rfl
theorem b_are_paths : Binds K T.d_are_paths ["value"] [] := T.U_are_paths.binds fun _ _ _ _ _ _ us hl => match us, hl with | [_], _ => rfl
theorem b_span_of : Binds K T.d_span_of ["limits"] [] := T.U_span_of.binds fun _ _ _ _ _ _ us hl => match us, hl with | [_], _ => rfl
theorem U_fit : Fun K "fit" "fit" s_fit T.f_fit T.d_fit := T.V_fit.fun
theorem b_fit : Binds K T.d_fit ["limits", "value"] [] := T.U_fit.binds fun _ _ _ _ _ _ us hl => match us, hl with | [_, _], _ => rfl
theorem b_are_counts : Binds K T.d_are_counts ["limits", "value"] [] := T.U_are_counts.binds fun _ _ _ _ _ _ us hl => match us, hl with | [_, _], _ => rfl
theorem b_l_well : Binds K T.d_l_well ["_law_script", "_law_turn"] [] := T.U_l_well.binds fun _ _ _ _ _ _ us hl => match us, hl with | [_, _], _ => rfl
theorem b_l_pick : Binds K T.d_l_pick ["_law_well_here", "_law_top"] [] := T.U_l_pick.binds fun _ _ _ _ _ _ us hl => match us, hl with | [_, _], _ => rfl
theorem b_l_one : Binds K T.d_l_one ["_law_well_here", "_law_some"] [] := T.U_l_one.binds fun _ _ _ _ _ _ us hl => match us, hl with | [_, _], _ => rfl
theorem b_l_signs : Binds K T.d_l_signs [] [] := T.U_l_signs.binds fun _ _ _ _ _ _ us hl => match us, hl with | [], _ => rfl
theorem b_l_alphabet : Binds K T.d_l_alphabet ["_law_well_here"] [] := T.U_l_alphabet.binds fun _ _ _ _ _ _ us hl => match us, hl with | [_], _ => rfl
theorem b_l_is_whole : Binds K T.d_l_is_whole ["_law_value"] [] := T.U_l_is_whole.binds fun _ _ _ _ _ _ us hl => match us, hl with | [_], _ => rfl
theorem b_l_odd : Binds K T.d_l_odd ["_law_well_here"] [] := T.U_l_odd.binds fun _ _ _ _ _ _ us hl => match us, hl with | [_], _ => rfl
theorem b_l_bent : Binds K T.d_l_bent ["_law_well_here", "_law_value", "_law_depth"] [] := T.U_l_bent.binds fun _ _ _ _ _ _ us hl => match us, hl with | [_, _, _], _ => rfl
theorem b_l_is_pattern : Binds K T.d_l_is_pattern ["_law_value"] [] := T.U_l_is_pattern.binds fun _ _ _ _ _ _ us hl => match us, hl with | [_], _ => rfl
theorem b_l_rows_wrong : Binds K T.d_l_rows_wrong ["_law_value"] [] := T.U_l_rows_wrong.binds fun _ _ _ _ _ _ us hl => match us, hl with | [_], _ => rfl
theorem b_l_are_limits : Binds K T.d_l_are_limits ["_law_value"] [] := T.U_l_are_limits.binds fun _ _ _ _ _ _ us hl => match us, hl with | [_], _ => rfl
theorem b_l_are_hours : Binds K T.d_l_are_hours ["_law_value"] [] := T.U_l_are_hours.binds fun _ _ _ _ _ _ us hl => match us, hl with | [_], _ => rfl
theorem b_l_are_rules : Binds K T.d_l_are_rules ["_law_value"] [] := T.U_l_are_rules.binds fun _ _ _ _ _ _ us hl => match us, hl with | [_], _ => rfl
theorem b_l_some_pattern : Binds K T.d_l_some_pattern ["_law_well_here", "_law_signs_here", "_law_stars", "_law_top"] [] := T.U_l_some_pattern.binds fun _ _ _ _ _ _ us hl => match us, hl with | [_, _, _, _], _ => rfl
theorem b_l_some_rows : Binds K T.d_l_some_rows ["_law_well_here", "_law_signs_here", "_law_top"] [] := T.U_l_some_rows.binds fun _ _ _ _ _ _ us hl => match us, hl with | [_, _, _], _ => rfl
theorem b_l_some_limits : Binds K T.d_l_some_limits ["_law_well_here", "_law_top", "_law_width"] [] := T.U_l_some_limits.binds fun _ _ _ _ _ _ us hl => match us, hl with | [_, _, _], _ => rfl
theorem b_l_some_hours : Binds K T.d_l_some_hours ["_law_well_here", "_law_top"] [] := T.U_l_some_hours.binds fun _ _ _ _ _ _ us hl => match us, hl with | [_, _], _ => rfl
theorem b_l_are_counts : Binds K T.d_l_are_counts ["_law_pairs", "_law_value"] [] := T.U_l_are_counts.binds fun _ _ _ _ _ _ us hl => match us, hl with | [_, _], _ => rfl
theorem b_l_some_counts : Binds K T.d_l_some_counts ["_law_well_here", "_law_pairs"] [] := T.U_l_some_counts.binds fun _ _ _ _ _ _ us hl => match us, hl with | [_, _], _ => rfl
theorem b_l_value_right : Binds K T.d_l_value_right ["_law_pairs", "_law_value"] [] := T.U_l_value_right.binds fun _ _ _ _ _ _ us hl => match us, hl with | [_, _], _ => rfl
theorem b_l_right : Binds K T.d_l_right ["_law_well_here"] [] := T.U_l_right.binds fun _ _ _ _ _ _ us hl => match us, hl with | [_], _ => rfl
theorem b_law : Binds K T.d_law ["_law_script"] [] := T.U_law.binds fun _ _ _ _ _ _ us hl => match us, hl with | [_], _ => rfl
end D
end KP

set_option Elab.async false
set_option maxRecDepth 100000
set_option maxHeartbeats 4000000
set_option linter.all false
/-! Ours: quiet defs: whole numbers, bounds, rows, pairs of limits. -/
namespace KP
open PySem PySem.Spec PyProof.Rows L2 Gr GxR
def limD : PyData → Bool
  | .tuple [a, b] => betwD a 1 6 && betwD b 1 12
  | _ => false
theorem QF.mono {P : Program} {w : World} {K : PySem.W.Frag} {mg : Str → Option Value} {base : Heap} {j k : Nat} {f : Addr} {fd : FuncData} {ps : List Str} {pre : List PyData → PyData → Prop} (F : QF P w K mg base j f fd ps pre) (h : j ≤ k) : QF P w K mg base k f fd ps pre :=
  ⟨F.len, fun B z args us ds d hr => F.run B z args us ds d (hr.mono h)⟩
section
variable {P : Program} {w : World} {K : PySem.W.Frag} {mg : Str → Option Value} {base : Heap}
theorem sc_whole : FnScope ["value"] ["value"] (defScope s_is_whole) := ⟨rfl, rfl, rfl, by decide +kernel, rfl, by decide +kernel, by decide +kernel⟩
theorem qf_whole (M : Mod K mg base) (T : D K mg) : QF P w K mg base 1 T.f_is_whole T.d_is_whole ["value"] (fun ds d => ∃ x, ds = [x] ∧ d = .bool (wholeD x)) := by
  refine qf_of M T.U_is_whole sc_whole (by decide +kernel) (by with_unfolding_all rfl) (fun ds d h => ?_) (fun env m h0 us ds d hsc C hm hv h => ?_)
  · obtain ⟨x, rfl, _⟩ := h
    rfl
  · obtain ⟨x, rfl, rfl⟩ := h
    match us, hv with
    | [u], .cons r .nil =>
      have n0 := hm 0 "value" u rfl rfl
      have e : (x.isInt && !x.isBool) = wholeD x := by cases x <;> rfl
      rw [← e]
      exact qe_and (qe_isi C (qe_name C (by rw [hsc]; decide +kernel) n0 r) (by rw [hsc]; decide +kernel) T.isinstance (by rw [hsc]; decide +kernel) T.int (by decide +kernel) (by decide) (by decide) (fun r h => PySem.W.isinstance_int_data r h))
        (fun _ => qe_one (qe_not (qe_isi C (qe_name C (by rw [hsc]; decide +kernel) n0 r) (by rw [hsc]; decide +kernel) T.isinstance (by rw [hsc]; decide +kernel) T.bool (by decide +kernel) (by decide) (by decide) (fun r h => PySem.W.isinstance_bool_data r h))))
theorem sc_betw : FnScope ["value", "low", "high"] ["value", "low", "high"] (defScope s_is_between) := ⟨rfl, rfl, rfl, by decide +kernel, rfl, by decide +kernel, by decide +kernel⟩
theorem qf_betw (M : Mod K mg base) (T : D K mg) : QF P w K mg base 2 T.f_is_between T.d_is_between ["value", "low", "high"] (fun ds d => ∃ x lo hi, ds = [x, .int lo, .int hi] ∧ d = .bool (betwD x lo hi)) := by
  refine qf_of M T.U_is_between sc_betw (by decide +kernel) (by with_unfolding_all rfl) (fun ds d h => ?_) (fun env m h0 us ds d hsc C hm hv h => ?_)
  · obtain ⟨x, lo, hi, rfl, _⟩ := h
    rfl
  · obtain ⟨x, lo, hi, rfl, rfl⟩ := h
    match us, hv with
    | [u, a, b], .cons r (.cons ra (.cons rb .nil)) =>
      have n0 := hm 0 "value" u rfl rfl
      have n1 := hm 1 "low" a rfl rfl
      have n2 := hm 2 "high" b rfl rfl
      have e : (wholeD x && betwD x lo hi) = betwD x lo hi := by cases x <;> rfl
      rw [← e]
      refine qe_and (qe_call C (qf_whole M T) (by rw [hsc]; decide +kernel) T.g_is_whole T.U_is_whole.kp T.b_is_whole (qes_cons (qe_name C (by rw [hsc]; decide +kernel) n0 r) qes_nil) ⟨x, rfl, rfl⟩) (fun hw => qe_one ?_)
      cases x with
      | int n => exact qe_chain (qe_name C (by rw [hsc]; decide +kernel) n1 ra) (qe_name C (by rw [hsc]; decide +kernel) n0 r) (qe_name C (by rw [hsc]; decide +kernel) n2 rb) (f := fun i j => decide (i ≤ j)) (g := fun i j => decide (i ≤ j)) (fun q => le_int q) (fun q => le_int q)
      | _ => cases hw
theorem sc_row : FnScope ["value", "low", "high"] ["value", "low", "high"] (defScope s_is_tuple) := ⟨rfl, rfl, rfl, by decide +kernel, rfl, by decide +kernel, by decide +kernel⟩
theorem qf_row (M : Mod K mg base) (T : D K mg) : QF P w K mg base 1 T.f_is_tuple T.d_is_tuple ["value", "low", "high"] (fun ds d => ∃ x lo hi, ds = [x, .int lo, .int hi] ∧ szD x ∧ d = .bool (rowD x lo hi)) := by
  refine qf_of M T.U_is_tuple sc_row (by decide +kernel) (by with_unfolding_all rfl) (fun ds d h => ?_) (fun env m h0 us ds d hsc C hm hv h => ?_)
  · obtain ⟨x, lo, hi, rfl, _⟩ := h
    rfl
  · obtain ⟨x, lo, hi, rfl, sz, rfl⟩ := h
    match us, hv with
    | [u, a, b], .cons r (.cons ra (.cons rb .nil)) =>
      have n0 := hm 0 "value" u rfl rfl
      have n1 := hm 1 "low" a rfl rfl
      have n2 := hm 2 "high" b rfl rfl
      have e : (x.isTuple && rowD x lo hi) = rowD x lo hi := by cases x <;> rfl
      rw [← e]
      refine qe_and (qe_isi C (qe_name C (by rw [hsc]; decide +kernel) n0 r) (by rw [hsc]; decide +kernel) T.isinstance (by rw [hsc]; decide +kernel) T.tuple (by decide +kernel) (by decide) (by decide) (fun r h => PySem.W.isinstance_tuple_data r h)) (fun hw => qe_one ?_)
      cases x with
      | tuple es => exact qe_chain (qe_name C (by rw [hsc]; decide +kernel) n1 ra) (qe_len C (qe_name C (by rw [hsc]; decide +kernel) n0 r) (by rw [hsc]; decide +kernel) T.len sz) (qe_name C (by rw [hsc]; decide +kernel) n2 rb) (f := fun i j => decide (i ≤ j)) (g := fun i j => decide (i ≤ j)) (fun q => le_int q) (fun q => le_int q)
      | _ => cases hw
theorem lim_row (x : PyData) : (rowD x 2 2 && limD x) = limD x := by
  cases x with
  | tuple l =>
    match l with
    | [] => rfl
    | [_] => rfl
    | [a, b] => show (true && _) = _; rfl
    | _ :: _ :: _ :: _ => show (_ && false) = false; rw [Bool.and_false]
  | _ => rfl
theorem row2 {x : PyData} (h : rowD x 2 2 = true) : ∃ a b, x = .tuple [a, b] := by
  cases x with
  | tuple l =>
    have h : (decide (2 ≤ ((l.length : Nat) : Int)) && decide (((l.length : Nat) : Int) ≤ 2)) = true := h
    simp only [Bool.and_eq_true, decide_eq_true_eq] at h
    match l, h with
    | [], h => simp at h
    | [_], h => simp at h
    | [a, b], _ => exact ⟨a, b, rfl⟩
    | _ :: _ :: _ :: _, h => simp at h; omega
  | _ => cases h
theorem sc_limit : FnScope ["value"] ["value"] (defScope s_is_limit) := ⟨rfl, rfl, rfl, by decide +kernel, rfl, by decide +kernel, by decide +kernel⟩
theorem qf_limit (M : Mod K mg base) (T : D K mg) : QF P w K mg base 3 T.f_is_limit T.d_is_limit ["value"] (fun ds d => ∃ x, ds = [x] ∧ szD x ∧ d = .bool (limD x)) := by
  refine qf_of M T.U_is_limit sc_limit (by decide +kernel) (by with_unfolding_all rfl) (fun ds d h => ?_) (fun env m h0 us ds d hsc C hm hv h => ?_)
  · obtain ⟨x, rfl, _⟩ := h
    rfl
  · obtain ⟨x, rfl, sz, rfl⟩ := h
    match us, hv with
    | [u], .cons r .nil =>
      have n0 := hm 0 "value" u rfl rfl
      have mz : 5000 ≤ sizeLine := by decide
      rw [← lim_row x]
      refine qe_and (qe_call C (QF.mono (qf_row M T) (by decide)) (by rw [hsc]; decide +kernel) T.g_is_tuple T.U_is_tuple.kp T.b_is_tuple (qes_cons (qe_name C (by rw [hsc]; decide +kernel) n0 r) (qes_cons qe_int (qes_cons qe_int qes_nil))) ⟨x, _, _, rfl, sz, rfl⟩) (fun hw => ?_)
      obtain ⟨a, b, rfl⟩ := row2 hw
      exact qe_and (qe_call C (qf_betw M T) (by rw [hsc]; decide +kernel) T.g_is_between T.U_is_between.kp T.b_is_between (qes_cons (qe_ix (ds := [a, b]) (i := 0) (qe_name C (by rw [hsc]; decide +kernel) n0 r) rfl (by show 2 ≤ sizeLine; omega)) (qes_cons qe_int (qes_cons (qe_gint C (by rw [hsc]; decide +kernel) T.g_MOST_ASKS) qes_nil))) ⟨a, _, _, rfl, rfl⟩)
        (fun _ => qe_one (qe_call C (qf_betw M T) (by rw [hsc]; decide +kernel) T.g_is_between T.U_is_between.kp T.b_is_between (qes_cons (qe_ix (ds := [a, b]) (i := 1) (qe_name C (by rw [hsc]; decide +kernel) n0 r) rfl (by show 2 ≤ sizeLine; omega)) (qes_cons qe_int (qes_cons (qe_gint C (by rw [hsc]; decide +kernel) T.g_WIDEST) qes_nil))) ⟨b, _, _, rfl, rfl⟩))
end
end KP

set_option Elab.async false
set_option maxRecDepth 100000
set_option maxHeartbeats 4000000
set_option linter.all false
/-! Ours: limits, hours, rules of values of any kind. -/
namespace KP
open PySem PySem.Spec PyProof.Rows L2 Gr GxR
theorem gens_mk {env : Env} {scope : Scope} {x : Str} (h1 : scope.kind = .function) (h2 : scope.isCoroutine = false) (h3 : ∀ y ∈ scope.names, y.2 ≠ .cell) (h4 : scope.names.lookup (".0" : Str) = some NameKind.local) (h5 : scope.names.lookup x = some .local)
    (h6 : ∀ y ∈ scope.names, y.2 ≠ .free) : GenS env scope x := ⟨h1, h2, h3, h4, h5, fun y hy e => absurd e (h6 y hy)⟩
structure Tabs {K : PySem.W.Frag} {mg : Str → Option Value} (base : Heap) (T : D K mg) : Prop where
  a : TabB base mg T.c_are_limits T.P_are_limits
  b : TabB base mg T.c_are_hours T.P_are_hours
  c : TabB base mg T.c_is_pattern T.P_is_pattern
  d : TabB base mg T.c_fit T.P_fit
def tabs {K : PySem.W.Frag} {mg : Str → Option Value} (T : D K mg) : List Addr := [T.P_are_limits, T.P_are_hours, T.P_is_pattern, T.P_fit]
def elems : PyData → List PyData
  | .tuple l => l
  | _ => []
def limsD (d : PyData) : Bool := rowD d 0 4 && (elems d).all limD
def hoursD (d : PyData) : Bool := rowD d 1 12 && ((elems d).all (fun x => betwD x 0 1) && hasOne 1 (elems d))
def rulesD : PyData → Bool
  | .tuple [a, b] => limsD a && hoursD b
  | _ => false
def anyD : PyData → Prop := fun _ => True
section
variable {P : Program} {w : World} {K : PySem.W.Frag} {mg : Str → Option Value} {base : Heap}
theorem ok_whole (T : D K mg) : FnOk P w K mg base CX0 1 T.f_is_whole T.d_is_whole ["value"] spWhole := by
  refine T.U_is_whole.ok sc_whole (fun vs H Q E h => ?_) (fun cdv A outer s H vs Q E hr h => ?_)
  · obtain ⟨v, d, rfl, _⟩ := h
    rfl
  · obtain ⟨v, d, rfl, hd, k⟩ := h
    have nd := sc_whole.nd
    refine ⟨_, pss_one (ps_ret (pe_and (pe_callB call_isi (by rfl) T.isinstance (by decide +kernel) (pa_cons (pv 0) (pa_cons (pe_bltn (v := .ty "int") (by rfl) T.int (by decide +kernel) rfl) pa_nil))) (pe_one (pe_not (pe_callB call_isi (by rfl) T.isinstance (by decide +kernel) (pa_cons (pv 0) (pa_cons (pe_bltn (v := .ty "bool") (by rfl) T.bool (by decide +kernel) rfl) pa_nil))))))), ?_⟩
    refine and_pure (isIntD d) (!isBoolD d) (fun Q' q' => ⟨_, rfl, _, _, _, _, _, rfl, .ty _, hd.ty, kInt d, q'⟩) (fun _ Q' q' => ⟨_, rfl, _, _, _, _, _, rfl, .ty _, hd.ty, kBool d, ?_⟩) ?_
    · exact ⟨_, rfl, q'⟩
    · have e : (isIntD d && !isBoolD d) = wholeD d := by cases d <;> rfl
      rw [e]
      exact k
theorem sc_lwhole : FnScope ["_law_value"] ["_law_value"] (defScope s_l_is_whole) := ⟨rfl, rfl, rfl, by decide +kernel, rfl, by decide +kernel, by decide +kernel⟩
theorem ok_lwhole (T : D K mg) : FnOk P w K mg base CX0 1 T.f_l_is_whole T.d_l_is_whole ["_law_value"] spWhole := by
  refine T.U_l_is_whole.ok sc_lwhole (fun vs H Q E h => ?_) (fun cdv A outer s H vs Q E hr h => ?_)
  · obtain ⟨v, d, rfl, _⟩ := h
    rfl
  · obtain ⟨v, d, rfl, hd, k⟩ := h
    refine ⟨_, pss_one (ps_ret (pe_and (pe_callB call_isi (by rfl) T.isinstance (by decide +kernel) (pa_cons (pv 0) (pa_cons (pe_bltn (v := .ty "int") (by rfl) T.int (by decide +kernel) rfl) pa_nil))) (pe_one (pe_not (pe_callB call_isi (by rfl) T.isinstance (by decide +kernel) (pa_cons (pv 0) (pa_cons (pe_bltn (v := .ty "bool") (by rfl) T.bool (by decide +kernel) rfl) pa_nil))))))), ?_⟩
    refine and_pure (isIntD d) (!isBoolD d) (fun Q' q' => ⟨_, rfl, _, _, _, _, _, rfl, .ty _, hd.ty, kInt d, q'⟩) (fun _ Q' q' => ⟨_, rfl, _, _, _, _, _, rfl, .ty _, hd.ty, kBool d, ?_⟩) ?_
    · exact ⟨_, rfl, q'⟩
    · have e : (isIntD d && !isBoolD d) = wholeD d := by cases d <;> rfl
      rw [e]
      exact k
theorem ok_betw (T : D K mg) : FnOk P w K mg base CX0 2 T.f_is_between T.d_is_between ["value", "low", "high"] spBetw := by
  refine T.U_is_between.ok sc_betw (fun vs H Q E h => ?_) (fun cdv A outer s H vs Q E hr h => ?_)
  · obtain ⟨v, d, lo, hi, rfl, _⟩ := h
    rfl
  · obtain ⟨v, d, lo, hi, rfl, hd, k⟩ := h
    refine ⟨_, pss_one (ps_ret (pe_and (pe_call (ok_whole T) hr rfl T.g_is_whole T.U_is_whole.kp T.b_is_whole .nil pass0 (pa_cons (pv 0) pa_nil)) (pe_one (pe_chain op_le op_le (pv 1) (pv 0) (pv 2))))), ?_⟩
    refine and_pure (wholeD d) (betwD d lo hi) (fun Q' q' => ⟨_, rfl, _, _, rfl, hd, q'⟩) (fun hw Q' q' => ?_) ?_
    · cases hd with
      | int n =>
        refine ⟨_, rfl, _, rfl, _, _, rfl, rfl, _, rfl, ite2 (fun h1 => ⟨_, rfl, _, _, rfl, rfl, ?_⟩) (fun h1 => ?_)⟩
        · have e : betwD (.int n) lo hi = decide (n ≤ hi) := by
            show (decide (lo ≤ n) && decide (n ≤ hi)) = _
            rw [h1, Bool.true_and]
          rw [e] at q'
          exact q'
        · have e : betwD (.int n) lo hi = false := by
            show (decide (lo ≤ n) && decide (n ≤ hi)) = _
            rw [Bool.eq_false_iff.mpr h1, Bool.false_and]
          rw [e] at q'
          exact q'
      | _ => cases hw
    · have e : (wholeD d && betwD d lo hi) = betwD d lo hi := by cases d <;> rfl
      rw [e]
      exact k
theorem ok_row (T : D K mg) : FnOk P w K mg base CX0 1 T.f_is_tuple T.d_is_tuple ["value", "low", "high"] spRow := by
  refine T.U_is_tuple.ok sc_row (fun vs H Q E h => ?_) (fun cdv A outer s H vs Q E hr h => ?_)
  · obtain ⟨v, d, lo, hi, rfl, _⟩ := h
    rfl
  · obtain ⟨v, d, lo, hi, rfl, hd, k⟩ := h
    refine ⟨_, pss_one (ps_ret (pe_and (pe_callB call_isi (by rfl) T.isinstance (by decide +kernel) (pa_cons (pv 0) (pa_cons (pe_bltn (v := .ty "tuple") (by rfl) T.tuple (by decide +kernel) rfl) pa_nil))) (pe_one (pe_chain op_le op_le (pv 1) (pe_callB call_len_seq (by rfl) T.len PySem.boot_len (pa_cons (pv 0) pa_nil)) (pv 2))))), ?_⟩
    refine and_pure (isTupD d) (rowD d lo hi) (fun Q' q' => ⟨_, rfl, _, _, _, _, _, rfl, .ty _, hd.ty, kTup d, q'⟩) (fun hw Q' q' => ?_) ?_
    · cases hd with
      | tup e a =>
        rename_i ad xs ds
        have el := a.len
        refine ⟨_, rfl, _, rfl, ad, _, rfl, .inr (SqT.of e), _, _, rfl, rfl, _, rfl, ite2 (fun h1 => ⟨_, rfl, _, _, rfl, rfl, ?_⟩) (fun h1 => ?_)⟩
        · have e : rowD (.tuple ds) lo hi = decide (((xs.length : Nat) : Int) ≤ hi) := by
            show (decide (lo ≤ (ds.length : Nat)) && decide (((ds.length : Nat) : Int) ≤ hi)) = _
            rw [← el, h1, Bool.true_and]
          rw [e] at q'
          exact q'
        · have e : rowD (.tuple ds) lo hi = false := by
            show (decide (lo ≤ (ds.length : Nat)) && decide (((ds.length : Nat) : Int) ≤ hi)) = _
            rw [← el, Bool.eq_false_iff.mpr h1, Bool.false_and]
          rw [e] at q'
          exact q'
      | _ => cases hw
    · have e : (isTupD d && rowD d lo hi) = rowD d lo hi := by cases d <;> rfl
      rw [e]
      exact k
end

theorem OdAll.ints {H : Hp} : ∀ {xs : List V} {ds : List PyData}, OdAll H xs ds → (∀ d ∈ ds, wholeD d = true) → ∃ ns : List Int, xs = ns.map V.int ∧ ds = ns.map PyData.int
  | _, _, .nil, _ => ⟨[], rfl, rfl⟩
  | _, _, .cons a b, h => by
    obtain ⟨ns, e1, e2⟩ := OdAll.ints b fun d hd => h d (List.mem_cons_of_mem _ hd)
    cases a with
    | int i => exact ⟨i :: ns, by rw [e1]; rfl, by rw [e2]; rfl⟩
    | non => cases h _ List.mem_cons_self
    | bl _ => cases h _ List.mem_cons_self
    | str _ => cases h _ List.mem_cons_self
    | lst _ _ => cases h _ List.mem_cons_self
    | tup _ _ => cases h _ List.mem_cons_self
    | dic _ _ _ => cases h _ List.mem_cons_self
theorem ints_flat (ns : List Int) : (ns.map V.int).all flatV = true := by
  induction ns with
  | nil => rfl
  | cons n l ih => rw [List.map_cons, List.all_cons, ih]; rfl
theorem ints_in (i : Int) (ns : List Int) : inV (.int i) (ns.map V.int) = hasOne i (ns.map PyData.int) := by
  induction ns with
  | nil => rfl
  | cons n l ih =>
    unfold inV at ih ⊢
    rw [List.map_cons, List.any_cons, ih]
    rfl
theorem betw_whole {d : PyData} {lo hi : Int} (h : betwD d lo hi = true) : wholeD d = true := by
  cases d <;> first | rfl | cases h
theorem row_tup {d : PyData} {lo hi : Int} (h : rowD d lo hi = true) : ∃ ds, d = .tuple ds ∧ lo ≤ (ds.length : Nat) ∧ ((ds.length : Nat) : Int) ≤ hi := by
  cases d with
  | tuple ds =>
    have h : (decide (lo ≤ (ds.length : Nat)) && decide (((ds.length : Nat) : Int) ≤ hi)) = true := h
    rw [Bool.and_eq_true, decide_eq_true_eq, decide_eq_true_eq] at h
    exact ⟨ds, rfl, h⟩
  | _ => cases h
theorem od_tup {H : Hp} {v : V} {ds : List PyData} (h : Od H v (.tuple ds)) : ∃ a xs, v = .ref a ∧ H a = some (.tup xs) ∧ OdAll H xs ds := by
  cases h with
  | tup e o => exact ⟨_, _, rfl, e, o⟩
theorem OdAll.get {H : Hp} : ∀ {vs : List V} {ds : List PyData}, OdAll H vs ds → ∀ {i : Nat} {d : PyData}, ds[i]? = some d → ∃ v, vs[i]? = some v ∧ Od H v d
  | _, _, .nil, i, d, e => by cases e
  | _, _, .cons a b, 0, d, e => by cases e; exact ⟨_, rfl, a⟩
  | _, _, .cons a b, i + 1, d, e => OdAll.get b e
section
variable {P : Program} {w : World} {K : PySem.W.Frag} {mg : Str → Option Value} {base : Heap}
theorem sc_lims : FnScope ["value"] ["value"] (defScope s_are_limits) := ⟨rfl, rfl, rfl, by decide +kernel, rfl, by decide +kernel, by decide +kernel⟩
theorem ok_lims (T : D K mg) (TB : Tabs base T) : FnOk P w K mg base CX0 5 T.f_are_limits T.d_are_limits ["value"] (spD (tabs T) anyD limsD) := by
  refine T.V_are_limits.ok sc_lims (fun vs H Q E h => ?_) (fun A outer s H vs Q E hr h => ?_)
  · obtain ⟨v, d, rfl, _⟩ := h
    rfl
  · obtain ⟨v, d, rfl, hd, _, hT, k⟩ := h
    refine ⟨_, pss_one (ps_ret (pe_and (pe_call (ok_row T) (hr.mono (by decide)) rfl T.g_is_tuple T.U_is_tuple.kp T.b_is_tuple .nil pass0 (pa_cons (pv 0) (pa_cons pe_int (pa_cons (pe_glob (v := .int 4) rfl T.g_MOST_PAIRS ⟨_, rfl⟩) pa_nil))))
      (pe_one (pe_allD (pb := limD) (k := 3) hr (by rfl) T.all TB.a rfl (gens_mk rfl rfl (by decide +kernel) (by rfl) (by rfl) (by decide +kernel)) (pv 0)
        (fun en m h0 v d hsc C hm hv sz => qe_call C (qf_limit C.mod T) (by rw [hsc]; decide +kernel) T.g_is_limit T.U_is_limit.kp T.b_is_limit (qes_cons (qe_name C (by rw [hsc]; decide +kernel) hm hv) qes_nil) ⟨d, rfl, sz, rfl⟩) (fun _ => rfl))))), ?_⟩
    refine ⟨_, rfl, v, d, _, _, rfl, hd, _, rfl, ?_⟩
    cases hq : rowD d 0 4 with
    | false =>
      have q := k H (.refl hT)
      have e : limsD d = false := by unfold limsD; rw [hq]; rfl
      rw [e] at q
      exact iteF q
    | true =>
      obtain ⟨ds, rfl, _⟩ := row_tup hq
      refine iteT ⟨_, rfl, ds, hd.dq, hT _ (by simp [tabs]), fun H2 t2 => ?_⟩
      have q := k H2 (.tab hT t2 (by simp [tabs]))
      have e : limsD (.tuple ds) = ds.all limD := by unfold limsD; rw [hq]; rfl
      rw [e] at q
      exact q
theorem sc_hours : FnScope ["value"] ["value"] (defScope s_are_hours) := ⟨rfl, rfl, rfl, by decide +kernel, rfl, by decide +kernel, by decide +kernel⟩
theorem ok_hours (T : D K mg) (TB : Tabs base T) : FnOk P w K mg base CX0 5 T.f_are_hours T.d_are_hours ["value"] (spD (tabs T) anyD hoursD) := by
  refine T.V_are_hours.ok sc_hours (fun vs H Q E h => ?_) (fun A outer s H vs Q E hr h => ?_)
  · obtain ⟨v, d, rfl, _⟩ := h
    rfl
  · obtain ⟨v, d, rfl, hd, _, hT, k⟩ := h
    refine ⟨_, pss_one (ps_ret (pe_and (pe_call (ok_row T) (hr.mono (by decide)) rfl T.g_is_tuple T.U_is_tuple.kp T.b_is_tuple .nil pass0 (pa_cons (pv 0) (pa_cons pe_int (pa_cons (pe_glob (v := .int 12) rfl T.g_WIDEST ⟨_, rfl⟩) pa_nil))))
      (pe_and (pe_allD (pb := fun x => betwD x 0 1) (k := 3) hr (by rfl) T.all TB.b rfl (gens_mk rfl rfl (by decide +kernel) (by rfl) (by rfl) (by decide +kernel)) (pv 0)
        (fun en m h0 v d hsc C hm hv sz => qe_call C (QF.mono (qf_betw C.mod T) (by decide)) (by rw [hsc]; decide +kernel) T.g_is_between T.U_is_between.kp T.b_is_between (qes_cons (qe_name C (by rw [hsc]; decide +kernel) hm hv) (qes_cons qe_int (qes_cons qe_int qes_nil))) ⟨d, _, _, rfl, rfl⟩) (fun _ => rfl))
        (pe_one (pe_cmpR op_in_seq pe_int (pv 0) rfl))))), ?_⟩
    refine ⟨_, rfl, v, d, _, _, rfl, hd, _, rfl, ?_⟩
    cases hq : rowD d 1 12 with
    | false =>
      have q := k H (.refl hT)
      have e : hoursD d = false := by unfold hoursD; rw [hq]; rfl
      rw [e] at q
      exact iteF q
    | true =>
      obtain ⟨ds, rfl, _⟩ := row_tup hq
      have e : hoursD (.tuple ds) = (ds.all (fun x => betwD x 0 1) && hasOne 1 ds) := by unfold hoursD; rw [hq]; rfl
      refine iteT ⟨_, rfl, ds, hd.dq, hT _ (by simp [tabs]), fun H2 t2 => ⟨_, rfl, ?_⟩⟩
      have u2 : UpL (tabs T) H H2 := .tab hT t2 (by simp [tabs])
      have q := k H2 u2
      rw [e] at q
      cases ha : ds.all (fun x => betwD x 0 1) with
      | false =>
        rw [ha] at q
        exact iteF q
      | true =>
        rw [ha, Bool.true_and] at q
        have hd2 : Od H2 v (.tuple ds) := hd.stay (u2.stay hT)
        obtain ⟨a, xs, rfl, ea, oa⟩ := od_tup hd2
        obtain ⟨ns, rfl, rfl⟩ := OdAll.ints oa fun d hd => betw_whole (List.all_eq_true.mp ha d hd)
        rw [← ints_in] at q
        exact iteT ⟨_, rfl, a, _, rfl, .inr (SqT.of ea), rfl, ints_flat ns, q⟩
theorem sc_rules : FnScope ["value"] ["value"] (defScope s_are_rules) := ⟨rfl, rfl, rfl, by decide +kernel, rfl, by decide +kernel, by decide +kernel⟩
theorem rules_row (x : PyData) (h : rowD x 2 2 = false) : rulesD x = false := by
  cases x with
  | tuple l =>
    match l, h with
    | [], _ => rfl
    | [_], _ => rfl
    | [a, b], h => cases h
    | _ :: _ :: _ :: _, _ => rfl
  | _ => rfl
theorem ok_rules (T : D K mg) (TB : Tabs base T) : FnOk P w K mg base CX0 6 T.f_are_rules T.d_are_rules ["value"] (spD (tabs T) anyD rulesD) := by
  refine T.U_are_rules.ok sc_rules (fun vs H Q E h => ?_) (fun cdv A outer s H vs Q E hr h => ?_)
  · obtain ⟨v, d, rfl, _⟩ := h
    rfl
  · obtain ⟨v, d, rfl, hd, _, hT, k⟩ := h
    refine ⟨_, pss_one (ps_ret (pe_and (pe_call (ok_row T) (hr.mono (by decide)) rfl T.g_is_tuple T.U_is_tuple.kp T.b_is_tuple .nil pass0 (pa_cons (pv 0) (pa_cons pe_int (pa_cons pe_int pa_nil))))
      (pe_and (pe_call (ok_lims T TB) hr rfl T.g_are_limits T.U_are_limits.kp T.b_are_limits .nil pass0 (pa_cons (pe_ix ix_tup (pv 0) pe_int (fun _ _ => rfl)) pa_nil))
        (pe_one (pe_call (ok_hours T TB) hr rfl T.g_are_hours T.U_are_hours.kp T.b_are_hours .nil pass0 (pa_cons (pe_ix ix_tup (pv 0) pe_int (fun _ _ => rfl)) pa_nil)))))), ?_⟩
    refine ⟨_, rfl, v, d, _, _, rfl, hd, _, rfl, ?_⟩
    cases hq : rowD d 2 2 with
    | false =>
      have q := k H (.refl hT)
      rw [rules_row d hq] at q
      exact iteF q
    | true =>
      obtain ⟨x, y, rfl⟩ := row2 hq
      obtain ⟨a, xs, rfl, ea, oa⟩ := od_tup hd
      match xs, oa with
      | [vx, vy], .cons ox (.cons oy .nil) =>
        refine iteT ⟨_, rfl, a, [vx, vy], 0, vx, rfl, rfl, SqT.of ea, rfl, vx, x, rfl, ox, trivial, hT, fun H2 u2 => ⟨_, rfl, ?_⟩⟩
        have e : rulesD (.tuple [x, y]) = (limsD x && hoursD y) := rfl
        have s2 := u2.stay hT
        cases hx : limsD x with
        | false =>
          have q := k H2 u2
          rw [e, hx] at q
          exact iteF q
        | true =>
          refine iteT ⟨_, rfl, a, [vx, vy], 1, vy, rfl, rfl, SqT.of (s2 _ _ ea (fun _ z => nomatch z)), rfl, vy, y, rfl, oy.stay s2, trivial, u2.1, fun H3 u3 => ?_⟩
          have q := k H3 (u2.trans u3)
          rw [e, hx, Bool.true_and] at q
          exact q
/-- limits, or an error that never comes -/
def spChk (ps : List Addr) : Sp := fun vs H Q _ => ∃ v d, vs = [v] ∧ Od H v d ∧ limsD d = true ∧ Tb ps H ∧ ∀ H', UpL ps H H' → Q .non H'
theorem sc_chk : FnScope ["given"] ["given"] (defScope s_check_limits) := ⟨rfl, rfl, rfl, by decide +kernel, rfl, by decide +kernel, by decide +kernel⟩
theorem ok_chk (T : D K mg) (TB : Tabs base T) : FnOk P w K mg base CX0 6 T.f_check_limits T.d_check_limits ["given"] (spChk (tabs T)) := by
  refine T.U_check_limits.ok sc_chk (fun vs H Q E h => ?_) (fun cdv A outer s H vs Q E hr h => ?_)
  · obtain ⟨v, d, rfl, _⟩ := h
    rfl
  · obtain ⟨v, d, rfl, hd, hl, hT, k⟩ := h
    refine ⟨_, pss_one (ps_if (pt_not (pt_val (pe_call (ok_lims T TB) hr rfl T.g_are_limits T.U_are_limits.kp T.b_are_limits .nil pass0 (pa_cons (pv 0) pa_nil))))
        (pss_one ps_never)
        pss_nil), ?_⟩
    refine ⟨_, rfl, v, d, rfl, hd, trivial, hT, fun H2 u2 => ⟨_, rfl, ?_⟩⟩
    rw [hl]
    exact iteF (k H2 u2)
end
end KP

set_option Elab.async false
set_option maxRecDepth 100000
set_option maxHeartbeats 4000000
set_option linter.all false
/-! Ours: patterns and path rows of values of any kind. -/
namespace KP
open PySem PySem.Spec PyProof.Rows L2 Gr GxR
def SGs : Str := "-./0123456789_abcdefghijklmnopqrstuvwxyz"
def SG : List Nat := SGs.cps.toList
def isPath (z : Str) : Bool := z.cps.toList[0]? == some 47 && z.cps.toList.all (fun c => decide (c ∈ SG))
def innerOf (z : Str) : List Nat := if z.cps.toList.getLast? == some 36 then z.cps.toList.dropLast else z.cps.toList
def isPat (z : Str) : Bool := (decide (1 ≤ z.length) && decide (z.length ≤ 12)) && ((innerOf z)[0]? == some 47 && (innerOf z).all (fun c => c == 42 || decide (c ∈ SG)))
theorem Tabbed.refl {P : Addr} {H : Hp} (h : TabG H P) : Tabbed P H H := ⟨h, fun _ _ => rfl⟩
theorem Tabbed.trans {P : Addr} {H H1 H2 : Hp} (a : Tabbed P H H1) (b : Tabbed P H1 H2) : Tabbed P H H2 := ⟨b.1, fun x n => (b.2 x n).trans (a.2 x n)⟩
def patD : PyData → Bool
  | .str z => isPat z
  | _ => false
/-- a text isn't too long -/
def ShortD : PyData → Prop
  | .str z => z.length ≤ 1000
  | _ => True
def spOfD (Pt : Addr) (f : PyData → Bool) : Sp := fun vs H Q _ => ∃ v d, vs = [v] ∧ Od H v d ∧ ShortD d ∧ TabG H Pt ∧ ∀ H', Tabbed Pt H H' → Q (.bl (f d)) H'
theorem str_or {H : Hp} {v : V} {d : PyData} (h : Od H v d) : (∃ z, v = .str z ∧ d = .str z) ∨ isStrD d = false := by
  cases h with
  | str z => exact .inl ⟨z, rfl, rfl⟩
  | _ => exact .inr rfl
theorem no_pat {d : PyData} (h : isStrD d = false) : patD d = false := by
  cases d <;> first | rfl | cases h
theorem iteT' {c : Bool} {A B : Prop} (hc : c = true) (h : A) : if c = true then A else B := by
  subst hc
  exact h

mutual
/-- texts and rows are not too long, at any depth -/
def capD (n : Nat) : PyData → Bool
  | .str z => decide (z.length ≤ n) && z.cps.toList.all (fun c => decide (c < 128))
  | .tuple l => decide (l.length ≤ n) && capAll n l
  | .list l => decide (l.length ≤ n) && capAll n l
  | _ => true
def capAll (n : Nat) : List PyData → Bool
  | [] => true
  | d :: l => capD n d && capAll n l
end
theorem capAll_iff {n : Nat} : ∀ {l : List PyData}, capAll n l = true ↔ ∀ d ∈ l, capD n d = true
  | [] => ⟨fun _ d h => (nomatch h), fun _ => rfl⟩
  | a :: l => by
    unfold capAll
    rw [Bool.and_eq_true, capAll_iff (l := l)]
    constructor
    · rintro ⟨h1, h2⟩ d hd
      rcases List.mem_cons.mp hd with e | e
      · rw [e]; exact h1
      · exact h2 d e
    · intro h
      exact ⟨h a List.mem_cons_self, fun d hd => h d (List.mem_cons_of_mem _ hd)⟩
theorem cap_tup {n : Nat} {l : List PyData} (h : capD n (.tuple l) = true) : l.length ≤ n ∧ ∀ d ∈ l, capD n d = true := by
  unfold capD at h
  rw [Bool.and_eq_true, decide_eq_true_eq] at h
  exact ⟨h.1, capAll_iff.mp h.2⟩
theorem tup_cap {n : Nat} {l : List PyData} (h : l.length ≤ n) (h2 : ∀ d ∈ l, capD n d = true) : capD n (.tuple l) = true := by
  unfold capD
  rw [Bool.and_eq_true, decide_eq_true_eq]
  exact ⟨h, capAll_iff.mpr h2⟩
theorem cap_short {d : PyData} (h : capD 1000 d = true) : ShortD d := by
  cases d with
  | str z =>
    unfold capD at h
    rw [Bool.and_eq_true] at h
    show z.length ≤ 1000
    exact of_decide_eq_true h.1
  | _ => trivial
def okC : PyData → Prop := fun d => capD 1000 d = true
def wordD : PyData → Bool
  | .str z => z == "bar" || z == "let"
  | _ => false
def rowpD : PyData → Bool
  | .tuple [a, b] => wordD a && patD b
  | _ => false
def starsOf : PyData → Int
  | .tuple [_, .str z] => Txt.count z "*"
  | _ => 0
def walkP : Int → List PyData → Bool
  | _, [] => true
  | s, r :: l => rowpD r && (!decide (4 < s + starsOf r) && walkP (s + starsOf r) l)
def pathsD (d : PyData) : Bool := rowD d 0 6 && walkP 0 (elems d)
section
variable {P : Program} {w : World} {K : PySem.W.Frag} {mg : Str → Option Value} {base : Heap}
theorem sc_is_pattern : FnScope ["value", "inner"] ["value"] (defScope s_is_pattern) := ⟨rfl, rfl, rfl, by decide +kernel, rfl, by decide +kernel, by decide +kernel⟩
theorem ok_is_pattern (T : D K mg) (TB : Tabs base T) : FnOk P w K mg base CX0 2 T.f_is_pattern T.d_is_pattern ["value"] (spOfD T.P_is_pattern patD) := by
  refine T.V_is_pattern.ok sc_is_pattern (fun vs H Q E h => ?_) (fun A outer s H vs Q E hr h => ?_)
  · obtain ⟨v, d, rfl, _⟩ := h
    rfl
  · obtain ⟨v, d, rfl, hd, hl, hT, k⟩ := h
    have nd := sc_is_pattern.nd
    refine ⟨_, pss_cons (ps_if (PW.pt (pw_or (pt_not (pt_val (pe_callB call_isi (by rfl) T.isinstance (by decide +kernel) (pa_cons (pv 0) (pa_cons (pe_bltn (v := .ty "str") (by rfl) T.str (by decide +kernel) rfl) pa_nil))))) (pw_or1 (pt_not (pt_chain op_le op_le pe_int (pe_callB call_len_str (by rfl) T.len PySem.boot_len (pa_cons (pv 0) pa_nil)) (pe_glob (v := .int 12) rfl T.g_LONGEST_PATTERN ⟨_, rfl⟩))))))
        (pss_one (ps_ret pe_bl))
        (pss_nil))
      (pss_cons (ps_set (i := 1) nd rfl (.inl rfl) (pe_bm PySem.F.plainAttrs_str PySem.F.slot_str_removesuffix PySem.F.type_str_removesuffix mt_removesuffix (pv 0) (pa_cons pe_str pa_nil)))
      (pss_one (ps_ret (pe_and (pe_m1 PySem.F.slot_str_startswith PySem.F.type_str_startswith mt_startswith (pv 1) pe_str) (pe_one
        (pe_allG (pb := fun c => ([c] == ("*" : Str).cps.toList) || decide (c ∈ SG)) hr (by rfl) T.all TB.c rfl (gens_mk rfl rfl (by decide +kernel) (by rfl) (by rfl) (by decide +kernel)) (pv 1) (eg_or (eg_eq rfl (by rfl)) (eg_in (y := SGs) rfl (by rfl) (by rfl) T.g_SIGNS)) (fun _ => rfl))))))), ?_⟩
    refine ⟨_, rfl, _, _, _, _, _, rfl, .ty _, hd.ty, kStr d, _, rfl, ?_⟩
    rcases str_or hd with ⟨z, rfl, rfl⟩ | hn
    case inr => exact iteT' (by rw [hn]; rfl) (by rw [← no_pat hn]; exact k H (Tabbed.refl hT))
    refine iteF ?_
    have k : ∀ H', Tabbed T.P_is_pattern H H' → Q (.bl (isPat z)) H' := k
    have hl : z.length ≤ 1000 := hl
    have hz : z.length ≤ sizeLine := Nat.le_trans hl (by decide)
    refine ⟨_, rfl, _, rfl, hz, _, _, rfl, rfl, _, rfl, ?_⟩
    have bad : (decide (1 ≤ z.length) && decide (z.length ≤ 12)) = false → isPat z = false := fun e => by unfold isPat; rw [e]; rfl
    have out : isPat z = false → Q (.bl false) H := fun e => by
      have q := k H (Tabbed.refl hT)
      rw [e] at q
      exact q
    have d1 : decide ((1 : Int) ≤ (z.length : Nat)) = decide (1 ≤ z.length) := by
      apply decide_eq_decide.mpr
      omega
    have d2 : decide (((z.length : Nat) : Int) ≤ 12) = decide (z.length ≤ 12) := by
      apply decide_eq_decide.mpr
      omega
    rw [d1]
    cases h1 : decide (1 ≤ z.length) with
    | false => exact iteF ⟨_, rfl, iteT (out (bad (by rw [h1]; rfl)))⟩
    | true =>
      refine iteT ⟨_, _, rfl, rfl, _, rfl, ?_⟩
      rw [d2]
      cases h2 : decide (z.length ≤ 12) with
      | false => exact iteT (out (bad (by rw [h1, h2]; rfl)))
      | true =>
        refine iteF ⟨_, rfl, rfl, _, _, rfl, rfl, hz, ?_⟩
        have eI : (Txt.removesuffix z "$").cps.toList = innerOf z := by rw [lit_dollar, tx_suffix]; rfl
        have eS : Txt.startswith (Txt.removesuffix z "$") "/" = ((innerOf z)[0]? == some 47) := by rw [lit_slash, tx_starts, eI]
        have eP : isPat z = ((innerOf z)[0]? == some 47 && (innerOf z).all (fun c => c == 42 || decide (c ∈ SG))) := by unfold isPat; rw [h1, h2]; rfl
        refine ⟨_, rfl, ⟨_, rfl⟩, _, _, rfl, rfl, _, rfl, ?_⟩
        rw [eS]
        cases hq : (innerOf z)[0]? == some 47 with
        | false => exact iteF (out (by rw [eP, hq]; rfl))
        | true =>
          refine iteT ⟨_, rfl, _, rfl, hT, fun H2 t2 => ?_⟩
          have q := k H2 t2
          rw [eP, hq] at q
          have ea : ((Txt.removesuffix z "$").cps.toList.all fun c => ([c] == ("*" : Str).cps.toList) || decide (c ∈ SG)) = (innerOf z).all (fun c => c == 42 || decide (c ∈ SG)) := by
            rw [eI]
            congr 1
            funext c
            have : ([c] == ("*" : Str).cps.toList) = (c == 42) := by
              rw [lit_star]
              show ([c] == [42]) = (c == 42)
              cases hc : c == 42 <;> simp_all
            rw [this]
          show Q (.bl ((Txt.removesuffix z "$").cps.toList.all fun c => ([c] == ("*" : Str).cps.toList) || decide (c ∈ SG))) H2
          rw [ea]
          exact q

theorem gn {i : Nat} {v : V} {σ : L2.St} {H : Hp} {Q : L2.St → Hp → Prop} (h : Q (σ.set i (some v)) H) : gName i v σ H Q := h
theorem next_of {E : Ends} {σ : L2.St} {H : Hp} (h : E.nx σ H) : tNext E σ H := h
theorem okp (T : D K mg) (TB : Tabs base T) : FnOk P w K mg base CX0 2 T.f_is_pattern T.d_is_pattern ["value"] (spD (tabs T) okC patD) :=
  fn_imp (ok_is_pattern T TB) fun vs H Q E ⟨v, d, e, o, c, t, k⟩ => ⟨v, d, e, o, cap_short c, t _ (by simp [tabs]), fun H' h' => k H' (.tab t h' (by simp [tabs]))⟩
theorem sc_prow : FnScope ["value", "word", "pattern"] ["value"] (defScope s_is_path_row) := ⟨rfl, rfl, rfl, by decide +kernel, rfl, by decide +kernel, by decide +kernel⟩
theorem prow_row (x : PyData) (h : rowD x 2 2 = false) : rowpD x = false := by
  cases x with
  | tuple l =>
    match l, h with
    | [], _ => rfl
    | [_], _ => rfl
    | [a, b], h => cases h
    | _ :: _ :: _ :: _, _ => rfl
  | _ => rfl
theorem word_in (z : Str) : inV (.str z) [.str "bar", .str "let"] = (z == "bar" || z == "let") := by
  show ((("bar" : Str) == z) || ((("let" : Str) == z) || false)) = _
  rw [Bool.or_false]
  congr 1 <;> exact Bool.eq_iff_iff.mpr (by rw [beq_iff_eq, beq_iff_eq]; exact eq_comm)
theorem ok_prow (T : D K mg) (TB : Tabs base T) : FnOk P w K mg base CX0 3 T.f_is_path_row T.d_is_path_row ["value"] (spD (tabs T) okC rowpD) := by
  refine T.U_is_path_row.ok sc_prow (fun vs H Q E h => ?_) (fun cdv A outer s H vs Q E hr h => ?_)
  · obtain ⟨v, d, rfl, _⟩ := h
    rfl
  · obtain ⟨v, d, rfl, hd, hc, hT, k⟩ := h
    have nd := sc_prow.nd
    have mz : 5000 ≤ sizeLine := by decide
    refine ⟨_, pss_cons (ps_if (pt_not (pt_val (pe_call (ok_row T) (hr.mono (by decide)) rfl T.g_is_tuple T.U_is_tuple.kp T.b_is_tuple .nil pass0 (pa_cons (pv 0) (pa_cons pe_int (pa_cons pe_int pa_nil))))))
        (pss_one (ps_ret pe_bl))
        (pss_nil))
      (pss_cons (ps_asg (pv 0) (pg_tup rfl (pgs_cons (pg_name (i := 1) nd rfl (.inl rfl)) (pgs_cons (pg_name (i := 2) nd rfl (.inl rfl)) pgs_nil))))
      (pss_one (ps_ret (pe_and (pe_callB call_isi (by rfl) T.isinstance (by decide +kernel) (pa_cons (pv 1) (pa_cons (pe_bltn (v := .ty "str") (by rfl) T.str (by decide +kernel) rfl) pa_nil))) (pe_and (pe_cmpR op_in_seq (pv 1) (pe_tup (pa_cons pe_str (pa_cons pe_str pa_nil))) rfl) (pe_one (pe_call (okp T TB) hr rfl T.g_is_pattern T.U_is_pattern.kp T.b_is_pattern .nil pass0 (pa_cons (pv 2) pa_nil)))))))), ?_⟩
    refine ⟨_, rfl, v, d, _, _, rfl, hd, _, rfl, ?_⟩
    cases hq : rowD d 2 2 with
    | false =>
      have q := k H (.refl hT)
      rw [prow_row d hq] at q
      exact iteT q
    | true =>
      obtain ⟨x, y, rfl⟩ := row2 hq
      obtain ⟨a, xs, rfl, ea, oa⟩ := od_tup hd
      obtain ⟨_, hcc⟩ := cap_tup hc
      match xs, oa with
      | [vx, vy], .cons ox (.cons oy .nil) =>
        refine iteF ?_
        refine ⟨_, rfl, a, [vx, vy], rfl, SqT.of ea, rfl, ?_⟩
        refine ⟨_, _, rfl, _, _, rfl, rfl, _, rfl, _, _, _, _, _, rfl, .ty _, ox.ty, kStr x, _, rfl, ?_⟩
        have e : rowpD (.tuple [x, y]) = (wordD x && patD y) := rfl
        rcases str_or ox with ⟨z, rfl, rfl⟩ | hn
        case inr =>
          have q := k H (.refl hT)
          have ew : wordD x = false := by cases x <;> first | rfl | cases hn
          rw [e, ew] at q
          rw [hn]
          exact iteF q
        refine iteT ⟨_, rfl, by show 2 ≤ sizeLine; omega, fun p hp => ⟨p, _, rfl, .inr (SqT.of upd_same), rfl, rfl, _, rfl, ?_⟩⟩
        have s1 := same_upd (o := HO.tup [V.str "bar", V.str "let"]) hp
        have u1 := UpL.same hT s1
        rw [if_neg Bool.false_ne_true, word_in]
        have ew : wordD (.str z) = (z == "bar" || z == "let") := rfl
        rw [← ew]
        cases hw : wordD (.str z) with
        | false =>
          have q := k _ u1
          rw [e, hw] at q
          exact iteF q
        | true =>
          refine iteT ⟨_, rfl, vy, y, rfl, oy.same s1, hcc _ (by simp), u1.1, fun H2 u2 => ?_⟩
          have q := k _ (u1.trans u2)
          rw [e, hw, Bool.true_and] at q
          exact q
/-- the index of the first wrong row: none for path rows -/
def spFault (ps : List Addr) : Sp := fun vs H Q _ => ∃ v d, vs = [v] ∧ Od H v d ∧ okC d ∧ Tb ps H ∧ ∀ p ys H', UpL ps H H' → H' p = some (.tup ys) → ys.isEmpty = pathsD d → Q (.ref p) H'
theorem sc_fault : FnScope ["value", "stars", "index", "row"] ["value"] (defScope s_fault_in_paths) := ⟨rfl, rfl, rfl, by decide +kernel, rfl, by decide +kernel, by decide +kernel⟩
theorem rowp_two {d : PyData} (h : rowpD d = true) : ∃ x z, d = .tuple [x, .str z] := by
  unfold rowpD at h
  split at h
  · rename_i a b
    rw [Bool.and_eq_true] at h
    cases b with
    | str z => exact ⟨a, z, rfl⟩
    | _ => cases h.2
  · cases h
theorem ok_fault (T : D K mg) (TB : Tabs base T) : FnOk P w K mg base CX0 4 T.f_fault_in_paths T.d_fault_in_paths ["value"] (spFault (tabs T)) := by
  refine T.U_fault_in_paths.ok sc_fault (fun vs H Q E h => ?_) (fun cdv A outer s H vs Q E hr h => ?_)
  · obtain ⟨v, d, rfl, _⟩ := h
    rfl
  · obtain ⟨v, d, rfl, hd, hc, hT, k⟩ := h
    have nd := sc_fault.nd
    have mz : 5000 ≤ sizeLine := by decide
    refine ⟨_, pss_cons (ps_if (pt_not (pt_val (pe_call (ok_row T) (hr.mono (by decide)) rfl T.g_is_tuple T.U_is_tuple.kp T.b_is_tuple .nil pass0 (pa_cons (pv 0) (pa_cons pe_int (pa_cons (pe_glob (v := .int 6) rfl T.g_MOST_PATHS ⟨_, rfl⟩) pa_nil))))))
        (pss_one (ps_ret (pe_tup (pa_cons pe_non pa_nil))))
        (pss_nil))
      (pss_cons (ps_set (i := 1) nd rfl (.inl rfl) pe_int)
      (pss_cons (ps_for PassesOwn.never rfl (pi_enumT (by rfl) T.enumerate (pa_cons (pv 0) pa_nil)) (pg_tup rfl (pgs_cons (pg_name (i := 2) nd rfl (.inl rfl)) (pgs_cons (pg_name (i := 3) nd rfl (.inl rfl)) pgs_nil)))
        (pss_cons (ps_if (pt_not (pt_val (pe_call (ok_prow T TB) hr rfl T.g_is_path_row T.U_is_path_row.kp T.b_is_path_row .nil pass0 (pa_cons (pv 3) pa_nil))))
          (pss_one (ps_ret (pe_tup (pa_cons (pv 2) pa_nil))))
          (pss_nil))
        (pss_cons (ps_aug (i := 1) nd rfl (.inl rfl) (pe_m1 PySem.F.slot_str_count PySem.F.type_str_count mt_count (pe_ix ix_tup (pv 3) pe_int (fun _ _ => rfl)) pe_str) ip_add)
        (pss_one (ps_if (pt_cmpR op_gt (pv 1) (pe_glob (v := .int 4) rfl T.g_MOST_STARS ⟨_, rfl⟩) (nomark _))
          (pss_one (ps_ret (pe_tup (pa_cons (pv 2) pa_nil))))
          (pss_nil))))))
      (pss_one (ps_ret (pe_tup pa_nil))))), ?_⟩
    refine ⟨_, rfl, v, d, _, _, rfl, hd, _, rfl, ?_⟩
    cases hq : rowD d 0 6 with
    | false =>
      have e : pathsD d = false := by unfold pathsD; rw [hq]; rfl
      refine iteT ⟨by show 1 ≤ sizeLine; omega, fun p hp => k p _ _ (.same hT (same_upd hp)) upd_same (by rw [e]; rfl)⟩
    | true =>
      obtain ⟨ds, rfl, _⟩ := row_tup hq
      obtain ⟨a, xs, rfl, ea, oa⟩ := od_tup hd
      obtain ⟨_, hcc⟩ := cap_tup hc
      have e : pathsD (.tuple ds) = walkP 0 ds := by unfold pathsD; rw [hq]; rfl
      refine iteF (next_of ?_)
      dsimp only
      refine ⟨_, rfl, a, xs, rfl, SqT.of ea, for_it (walk_tp (K := K) (a := a) (xs := xs)) (fun i σ H2 => UpL (tabs T) H H2 ∧ ∃ (st : Int) (v2 v3 : Option V), σ = [some (.ref a), some (.int st), v2, v3] ∧ walkP 0 ds = walkP st (ds.drop i)) ⟨.refl hT, 0, none, none, rfl, rfl⟩ (fun i σ H2 _ q => SqT.of (q.1.stay hT _ _ ea fun _ z => nomatch z)) ?_ ?_⟩
      · rintro i x σ H2 H3 hi ⟨u2, st, v2, v3, rfl, ew⟩ ⟨Tt, y, rfl, hTn, rfl, hy⟩
        have hi2 : i < ds.length := by rw [← oa.len]; exact hi
        have hdi : ds[i]? = some ds[i] := List.getElem?_eq_getElem hi2
        obtain ⟨y', hy', oy⟩ := OdAll.get oa hdi
        rw [hy] at hy'
        cases hy'
        have s3 := same_upd (o := HO.tup [V.int (i : Nat), y]) hTn
        have u3 := u2.trans (.same u2.1 s3)
        have ed : ds.drop i = ds[i] :: ds.drop (i + 1) := List.drop_eq_getElem_cons hi2
        rw [ed] at ew
        refine ⟨_, _, rfl, SqT.of upd_same, rfl, _, _, rfl, _, _, rfl, rfl, ?_⟩
        dsimp only
        have oy3 := (oy.stay (u2.stay hT)).same s3
        refine ⟨_, rfl, y, ds[i], rfl, oy3, hcc _ (List.getElem_mem hi2), u3.1, fun H4 u4 => ⟨_, rfl, ?_⟩⟩
        have u34 := u3.trans u4
        cases hr1 : rowpD ds[i] with
        | false =>
          refine iteT ⟨_, rfl, by show 1 ≤ sizeLine; omega, fun p hp => k p _ _ (u34.trans (.same u4.1 (same_upd hp))) upd_same ?_⟩
          rw [e, ew]
          show false = (rowpD ds[i] && _)
          rw [hr1]
          rfl
        | true =>
          refine iteF (next_of ?_)
          dsimp only
          obtain ⟨x, z, edd⟩ := rowp_two hr1
          have oy4 := oy3.stay (u4.stay u3.1)
          rw [edd] at oy4
          obtain ⟨b, ys, rfl, eb, ob⟩ := od_tup oy4
          match ys, ob with
          | [vx, _], .cons ox (.cons (.str _) .nil) =>
            have es : starsOf ds[i] = Txt.count z "*" := by rw [edd]; rfl
            have e1 : walkP st (ds[i] :: ds.drop (i + 1)) = (!decide (4 < st + starsOf ds[i]) && walkP (st + starsOf ds[i]) (ds.drop (i + 1))) := by
              show (rowpD ds[i] && _) = _
              rw [hr1, Bool.true_and]
            rw [e1, es] at ew
            refine ⟨_, rfl, ?_⟩
            refine ⟨_, rfl, b, [vx, .str z], 1, .str z, rfl, rfl, SqT.of eb, rfl, ⟨z, rfl⟩, z, "*", rfl, rfl, ?_⟩
            refine ⟨_, _, rfl, rfl, _, rfl, _, _, rfl, rfl, _, rfl, ite2 (fun hh => ?_) (fun hh => ?_)⟩
            · refine ⟨_, rfl, by show 1 ≤ sizeLine; omega, fun p hp => k p _ _ (u34.trans (.same u4.1 (same_upd hp))) upd_same ?_⟩
              rw [e, ew, hh]
              rfl
            · rw [Bool.eq_false_iff.mpr hh, Bool.not_false, Bool.true_and] at ew
              exact ⟨u34, _, _, _, rfl, ew⟩
      · rintro σ H2 ⟨u2, st, v2, v3, rfl, ew⟩
        refine ⟨by show 0 ≤ sizeLine; omega, fun p hp => k p _ _ (u2.trans (.same u2.1 (same_upd hp))) upd_same ?_⟩
        have el := oa.len
        rw [e, ew, el, List.drop_length]
        rfl
theorem sc_paths : FnScope ["value"] ["value"] (defScope s_are_paths) := ⟨rfl, rfl, rfl, by decide +kernel, rfl, by decide +kernel, by decide +kernel⟩
theorem ok_paths (T : D K mg) (TB : Tabs base T) : FnOk P w K mg base CX0 5 T.f_are_paths T.d_are_paths ["value"] (spD (tabs T) okC pathsD) := by
  refine T.U_are_paths.ok sc_paths (fun vs H Q E h => ?_) (fun cdv A outer s H vs Q E hr h => ?_)
  · obtain ⟨v, d, rfl, _⟩ := h
    rfl
  · obtain ⟨v, d, rfl, hd, hc, hT, k⟩ := h
    refine ⟨_, pss_one (ps_ret (pe_notT (pe_call (ok_fault T TB) hr rfl T.g_fault_in_paths T.U_fault_in_paths.kp T.b_fault_in_paths .nil pass0 (pa_cons (pv 0) pa_nil)))), ?_⟩
    refine ⟨_, rfl, v, d, rfl, hd, hc, hT, fun p ys H2 u2 ep ee => ⟨_, .inr (.inl ⟨ys, SqT.of ep, rfl⟩), ?_⟩⟩
    rw [Bool.not_not, ee]
    exact k H2 u2
end
end KP

set_option Elab.async false
set_option maxRecDepth 100000
set_option maxHeartbeats 4000000
set_option linter.all false
/-! Ours: counts that fit limits. -/
namespace KP
open PySem PySem.Spec PyProof.Rows L2 Gr GxR
def prD (p : Int × Int) : PyData := .tuple [.int p.1, .int p.2]
def Lim (ps : List (Int × Int)) : Prop := ps.length ≤ 4 ∧ ∀ p ∈ ps, 1 ≤ p.1 ∧ p.1 ≤ 6 ∧ 1 ≤ p.2 ∧ p.2 ≤ 12
theorem lim_pr {d : PyData} (h : limD d = true) : ∃ p : Int × Int, d = prD p ∧ 1 ≤ p.1 ∧ p.1 ≤ 6 ∧ 1 ≤ p.2 ∧ p.2 ≤ 12 := by
  unfold limD at h
  split at h
  · rename_i a b
    rw [Bool.and_eq_true] at h
    cases a with
    | int i =>
      cases b with
      | int j =>
        obtain ⟨h1, h2⟩ := h
        have h1 : (decide (1 ≤ i) && decide (i ≤ 6)) = true := h1
        have h2 : (decide (1 ≤ j) && decide (j ≤ 12)) = true := h2
        rw [Bool.and_eq_true, decide_eq_true_eq, decide_eq_true_eq] at h1 h2
        exact ⟨(i, j), rfl, h1.1, h1.2, h2.1, h2.2⟩
      | _ => cases h.2
    | _ => cases h.1
  · cases h
theorem all_lims : ∀ {l : List PyData}, l.all limD = true → ∃ ps : List (Int × Int), l = ps.map prD ∧ ∀ p ∈ ps, 1 ≤ p.1 ∧ p.1 ≤ 6 ∧ 1 ≤ p.2 ∧ p.2 ≤ 12
  | [], _ => ⟨[], rfl, fun _ h => nomatch h⟩
  | d :: l, h => by
    rw [List.all_cons, Bool.and_eq_true] at h
    obtain ⟨p, e, hp⟩ := lim_pr h.1
    obtain ⟨ps, e2, h2⟩ := all_lims h.2
    exact ⟨p :: ps, by rw [e, e2]; rfl, fun q hq => by
      rcases List.mem_cons.mp hq with z | z
      · rw [z]; exact hp
      · exact h2 q z⟩
theorem lims_of {d : PyData} (h : limsD d = true) : ∃ ps, d = .tuple (ps.map prD) ∧ Lim ps := by
  unfold limsD at h
  rw [Bool.and_eq_true] at h
  obtain ⟨ds, rfl, _, h4⟩ := row_tup h.1
  obtain ⟨ps, e, hp⟩ := all_lims h.2
  have e : ds = ps.map prD := e
  subst e
  rw [List.length_map] at h4
  exact ⟨ps, rfl, by omega, hp⟩
def spanP (ps : List (Int × Int)) : Int := maxI 1 (ps.map (·.2)) - 1
theorem foldl_bound : ∀ (l : List Int) (n : Int), n ≤ 12 → (∀ x ∈ l, x ≤ 12) → n ≤ l.foldl max n ∧ l.foldl max n ≤ 12
  | [], n, h, _ => ⟨Int.le_refl _, h⟩
  | x :: l, n, h, hl => by
    have hx := hl x List.mem_cons_self
    have := foldl_bound l (max n x) (by omega) fun y hy => hl y (List.mem_cons_of_mem _ hy)
    rw [List.foldl_cons]
    exact ⟨by omega, this.2⟩
theorem span_bound {ps : List (Int × Int)} (h : Lim ps) : 0 ≤ spanP ps ∧ spanP ps ≤ 11 := by
  unfold spanP
  cases ps with
  | nil => exact ⟨by decide, by decide⟩
  | cons p l =>
    have hp := h.2 p List.mem_cons_self
    have := foldl_bound (l.map (·.2)) p.2 (by omega) fun x hx => by
      obtain ⟨q, hq, rfl⟩ := List.mem_map.mp hx
      have := h.2 q (List.mem_cons_of_mem _ hq)
      omega
    show 0 ≤ (l.map (·.2)).foldl max p.2 - 1 ∧ (l.map (·.2)).foldl max p.2 - 1 ≤ 11
    omega
/-- the pair at i, as it stands -/
theorem OdAll.pair {H : Hp} {xs : List V} {ps : List (Int × Int)} (o : OdAll H xs (ps.map prD)) {i : Nat} {x : V} (hx : xs[i]? = some x) : ∃ p b, ps[i]? = some p ∧ x = .ref b ∧ H b = some (.tup [.int p.1, .int p.2]) := by
  have hi : i < ps.length := by
    have := o.len
    rw [List.length_map] at this
    rw [← this]
    exact (List.getElem?_eq_some_iff.mp hx).1
  have e : (ps.map prD)[i]? = some (prD ps[i]) := by rw [List.getElem?_map, List.getElem?_eq_getElem hi]; rfl
  obtain ⟨v, hv, ov⟩ := OdAll.get o e
  rw [hx] at hv
  cases hv
  obtain ⟨b, ys, rfl, eb, ob⟩ := od_tup ov
  match ys, ob with
  | [_, _], .cons (.int _) (.cons (.int _) .nil) => exact ⟨ps[i], b, List.getElem?_eq_getElem hi, rfl, eb⟩
def spSpan : Sp := fun vs H Q _ => ∃ (v : V) (ps : List (Int × Int)), vs = [v] ∧ Od H v (.tuple (ps.map prD)) ∧ Lim ps ∧ ∀ H', Same H H' → Q (.int (spanP ps)) H'
section
variable {P : Program} {w : World} {K : PySem.W.Frag} {mg : Str → Option Value} {base : Heap}
theorem sc_span : FnScope ["limits", "_", "wide"] ["limits"] (defScope s_span_of) := ⟨rfl, rfl, rfl, by decide +kernel, rfl, by decide +kernel, by decide +kernel⟩
theorem ok_span (T : D K mg) : FnOk P w K mg base CX0 1 T.f_span_of T.d_span_of ["limits"] spSpan := by
  refine T.U_span_of.ok sc_span (fun vs H Q E h => ?_) (fun cdv A outer s H vs Q E hr h => ?_)
  · obtain ⟨v, d, rfl, _⟩ := h
    rfl
  · obtain ⟨v, ps, rfl, hd, hl, k⟩ := h
    have nd := sc_span.nd
    have mz : 5000 ≤ sizeLine := by decide
    refine ⟨_, pss_one (ps_ret (pe_op op_sub (pe_callBK (call_maxDef hr.hd hr.units) (by rfl) T.max (by decide +kernel) (pa_cons (pe_lc (own := [("_", 1), ("wide", 2)]) (g := gTup _ 2 (gCons (gName 1) (gCons (gName 2) gNil))) (tt := tYes) rfl nd (pi_tup (pv 0)) (blkOk_by (N := ["limits", "_", "wide"]) (sc := defScope s_span_of) (by decide +kernel)) (fun _ _ _ _ _ => pg_tup rfl (pgs_cons (pg_name (i := 1) nd rfl (.inl rfl)) (pgs_cons (pg_name (i := 2) nd rfl (.inl rfl)) pgs_nil))) (fun _ _ _ _ _ => pts_nil) (fun _ _ _ _ _ => pv 2)) pa_nil) (pk_cons pe_int pk_nil)) pe_int)), ?_⟩
    obtain ⟨a, xs, rfl, ea, oa⟩ := od_tup hd
    have lx : xs.length = ps.length := by rw [oa.len, List.length_map]
    refine ⟨_, rfl, a, rfl, ⟨xs, SqT.of ea⟩, fun D hD => lc_tup (K := K) (a := a) (xs := xs) (fun i H2 => Same H H2 ∧ H2 D = some (.lst (((ps.take i).map (·.2)).map V.int))) ⟨same_upd hD, upd_same⟩ (fun i H2 _ q => SqT.of (q.1 _ _ ea)) ?_ ?_⟩
    · rintro i x H2 hx ⟨s2, e2⟩
      obtain ⟨p, b, hp, rfl, eb⟩ := OdAll.pair oa hx
      refine ⟨b, _, rfl, SqT.of (s2 _ _ eb), rfl, _, _, rfl, _, _, rfl, rfl, rfl, ?_⟩
      unfold tYes
      dsimp only
      rw [if_pos rfl]
      have hip := (List.getElem?_eq_some_iff.mp hp).1
      refine ⟨_, rfl, _, e2, by rw [List.length_map, List.length_map, List.length_take]; have := hl.1; omega, same_into hD s2, ?_⟩
      rw [upd_same, List.take_add_one, hp, List.map_append, List.map_append]
      rfl
    · rintro H2 ⟨s2, e2⟩
      rw [lx, List.take_length] at e2
      refine ⟨D, ps.map (fun p : Int × Int => p.2), 1, rfl, rfl, SqL.of e2, _, _, rfl, rfl, k H2 s2⟩
end
end KP

set_option Elab.async false
set_option maxRecDepth 100000
set_option maxHeartbeats 4000000
set_option linter.all false
/-! Ours: counts that fit limits: the windows. -/
namespace KP
open PySem PySem.Spec PyProof.Rows L2 Gr GxR
def numD : PyData → Int
  | .int n => n
  | _ => 0
def natD : PyData → Bool
  | .int n => decide (0 ≤ n)
  | _ => false
def win (ns : List Int) (p : Int × Int) (at' : Nat) : Bool := decide (((ns.drop at').take p.2.toNat).sum ≤ p.1)
def wins (ns : List Int) (L : Nat) (p : Int × Int) : List Bool := (List.range L).map (win ns p)
def fitD (ps : List (Int × Int)) (d : PyData) : Bool := rowD d (spanP ps) (spanP ps) && ((elems d).all natD && (ps.flatMap (wins ((elems d).map numD) (spanP ps).toNat)).all id)
theorem cut_win (ns : List Int) (i w : Nat) : cutV (ns.map V.int) (some ((i : Nat) : Int)) (some (((i + w : Nat)) : Int)) = ((ns.drop i).take w).map V.int := by
  unfold cutV
  rw [HT.sIx_nat, HT.sIx_nat, List.map_take, List.map_drop]
  generalize ns.map V.int = xs
  by_cases h : i ≤ xs.length
  · rw [Nat.min_eq_left h]
    by_cases h2 : i + w ≤ xs.length
    · rw [Nat.min_eq_left h2]
      congr 1
      omega
    · rw [Nat.min_eq_right (by omega)]
      rw [List.take_of_length_le (by rw [List.length_drop]; exact Nat.le_refl _), List.take_of_length_le (by rw [List.length_drop]; omega)]
  · rw [Nat.min_eq_right (show xs.length ≤ i by omega), Nat.min_eq_right (show xs.length ≤ i + w by omega), List.drop_of_length_le (Nat.le_refl _), List.drop_of_length_le (show xs.length ≤ i by omega), List.take_nil, List.take_nil]
theorem cut_whole {xs : List V} {lo hi : Option Int} (h : HT.sIx xs.length 0 lo = 0 ∧ HT.sIx xs.length xs.length hi = xs.length) : cutV xs lo hi = xs := by
  unfold cutV
  rw [h.1, h.2, List.drop_zero, Nat.sub_zero]
  exact List.take_of_length_le (Nat.le_refl _)
theorem nat_ints {ds : List PyData} (h : ds.all natD = true) : ds = (ds.map numD).map PyData.int := by
  induction ds with
  | nil => rfl
  | cons d l ih =>
    rw [List.all_cons, Bool.and_eq_true] at h
    rw [List.map_cons, List.map_cons, ← ih h.2]
    cases d with
    | int n => rfl
    | _ => cases h.1
theorem od_ints {H : Hp} {xs : List V} {ns : List Int} (o : OdAll H xs (ns.map PyData.int)) : xs = ns.map V.int := by
  induction ns generalizing xs with
  | nil => cases o; rfl
  | cons n l ih =>
    cases o with
    | cons a b =>
      cases a
      rw [ih b]
      rfl
/-- a slice of a tuple of numbers, summed -/
theorem slice_sum {K : PySem.W.Frag} {t0 t1 t2 : TE} {σ : L2.St} {H : Hp} {Q : VK} {a : Addr} {ns : List Int} {i w : Nat} (h0 : ∀ H' (Q' : VK), Q' (.ref a) H' → t0 σ H' Q') (h1 : ∀ H' (Q' : VK), Q' (.int (i : Nat)) H' → t1 σ H' Q') (h2 : ∀ H' (Q' : VK), Q' (.int ((i + w : Nat) : Int)) H' → t2 σ H' Q')
    (e : H a = some (.tup (ns.map V.int))) (k : ∀ H', Same H H' → Q (.int ((ns.drop i).take w).sum) H') : tCB (rSumT K) (tCons (tSl (rSlA K) t0 (tPart t1) (tPart t2)) tNil) σ H Q := by
  refine h0 _ _ (h1 _ _ ⟨_, rfl, h2 _ _ ⟨_, rfl, a, _, rfl, SqT.of e, fun q => ?_, fun _ p hp => ?_⟩⟩)
  · have ec := cut_whole q
    rw [cut_win] at ec
    exact ⟨a, (ns.drop i).take w, rfl, by rw [ec]; exact SqT.of e, k H (.refl _)⟩
  · rw [cut_win]
    exact ⟨p, (ns.drop i).take w, rfl, SqT.of upd_same, k _ (same_upd hp)⟩
theorem sl_tupAB {X : Cx} {s : Shared} {H : Hp} {sc : Scope} {en : Env} {fp : List Addr} : SlR (X.blk s H sc en fp) (rSlA X.K) := sl_tupA
theorem cr_sumTB {X : Cx} {s : Shared} {H : Hp} {sc : Scope} {en : Env} {fp : List Addr} (hd : X.A.handled = none) : CallR (X.blk s H sc en fp) (.builtin "sum") (rSumT X.K) := cr_sumT (X := X.blk s H sc en fp) hd
def spFit (ps0 : List Addr) : Sp := fun vs H Q _ => ∃ (lv v : V) (ps : List (Int × Int)) (d : PyData), vs = [lv, v] ∧ Od H lv (.tuple (ps.map prD)) ∧ Lim ps ∧ Od H v d ∧ Tb ps0 H ∧ ∀ H', UpL ps0 H H' → Q (.bl (fitD ps d)) H'
theorem wins_len (ns : List Int) (L : Nat) (p : Int × Int) : (wins ns L p).length = L := by unfold wins; rw [List.length_map, List.length_range]
theorem flat_len (ns : List Int) (L : Nat) : ∀ ps : List (Int × Int), (ps.flatMap (wins ns L)).length = ps.length * L
  | [] => by simp
  | p :: l => by rw [List.flatMap_cons, List.length_append, wins_len, flat_len ns L l, List.length_cons, Nat.succ_mul, Nat.add_comm]
section
variable {P : Program} {w : World} {K : PySem.W.Frag} {mg : Str → Option Value} {base : Heap}
theorem sc_fit : FnScope ["limits", "value", "span", "most", "wide", "at"] ["limits", "value"] (defScope s_fit) := ⟨rfl, rfl, rfl, by decide +kernel, rfl, by decide +kernel, by decide +kernel⟩
theorem ok_fit (T : D K mg) (TB : Tabs base T) : FnOk P w K mg base CX0 3 T.f_fit T.d_fit ["limits", "value"] (spFit (tabs T)) := by
  refine T.V_fit.ok sc_fit (fun vs H Q E h => ?_) (fun A outer s H vs Q E hr h => ?_)
  · obtain ⟨lv, v, ps, d, rfl, _⟩ := h
    rfl
  · obtain ⟨lv, v, ps, d, rfl, hL, hl, hd, hT, k⟩ := h
    have nd := sc_fit.nd
    have mz : 5000 ≤ sizeLine := by decide
    refine ⟨_, pss_cons (ps_set (i := 2) nd rfl (.inr rfl) (pe_call (ok_span T) (hr.mono (by decide)) rfl T.g_span_of T.U_span_of.kp T.b_span_of .nil pass0 (pa_cons (pv 0) pa_nil)))
      (pss_cons (ps_if (PW.pt (pw_or (pt_not (pt_val (pe_call (ok_row T) (hr.mono (by decide)) rfl T.g_is_tuple T.U_is_tuple.kp T.b_is_tuple .nil pass0 (pa_cons (pv 1) (pa_cons (pv 2) (pa_cons (pv 2) pa_nil)))))) (pw_or1 (pt_not (pt_val (pe_allD (pb := natD) (k := 1) hr (by rfl) T.all TB.d rfl (gens_mk rfl rfl (by decide +kernel) (by rfl) (by rfl) (by decide +kernel)) (pv 1)
          (fun en m h0 v d hsc C hm hv sz => by
            have e : (wholeD d && natD d) = natD d := by cases d <;> rfl
            rw [← e]
            refine qe_and (qe_call C (qf_whole C.mod T) (by rw [hsc]; decide +kernel) T.g_is_whole T.U_is_whole.kp T.b_is_whole (qes_cons (qe_name C (by rw [hsc]; decide +kernel) hm hv) qes_nil) ⟨d, rfl, rfl⟩) (fun hw => qe_one ?_)
            cases d with
            | int n => exact qe_cmp (c := fun i j => decide (j ≤ i)) (qe_name C (by rw [hsc]; decide +kernel) hm hv) qe_int (fun q => ge_int q)
            | _ => cases hw) (fun _ => rfl)))))))
        (pss_one (ps_ret pe_bl))
        (pss_nil))
      (pss_one (ps_ret (pe_callB (cr_all rfl) (by rfl) T.all boot_all (pa_cons (pe_lc2 (own := [("most", 3), ("wide", 4), ("at", 5)]) (vs1 := [5]) (g := gTup _ 2 (gCons (gName 3) (gCons (gName 4) gNil))) (tt := tYes) (g1 := gName 5) (tt1 := tYes) rfl nd (pi_tup (pv 0)) (blkOk_by (N := ["limits", "value", "span", "most", "wide", "at"]) (sc := defScope s_fit) (by decide +kernel)) (by decide)
          (fun _ _ _ _ _ => pg_tup rfl (pgs_cons (pg_name (i := 3) nd rfl (.inl rfl)) (pgs_cons (pg_name (i := 4) nd rfl (.inl rfl)) pgs_nil))) (fun _ _ _ _ _ => pts_nil)
          (fun _ _ _ _ _ => pi_range1 rfl T.range (pa_cons (pv 2) pa_nil)) (fun _ _ _ _ _ => pg_name (i := 5) nd rfl (.inl rfl)) (fun _ _ _ _ _ => pts_nil)
          (fun _ _ _ _ _ => pe_cmpR op_le (pe_callB (cr_sumTB hr.hd) (by rfl) T.sum (by decide +kernel) (pa_cons (pe_slice sl_tupAB (pv 1) (po_some (pv 5)) (po_some (pe_op op_add (pv 5) (pv 4)))) pa_nil)) (pv 3) (nomark _))) pa_nil))))), ?_⟩
    refine ⟨_, rfl, lv, ps, rfl, hL, hl, fun H1 s1 => ?_⟩
    refine gn ?_
    dsimp only
    have hb := span_bound hl
    have T1 := hT.same s1
    have hd1 := hd.same s1
    have hL1 := hL.same s1
    refine ⟨_, rfl, _, rfl, _, rfl, v, d, _, _, rfl, hd1, _, rfl, ?_⟩
    cases hq : rowD d (spanP ps) (spanP ps) with
    | false =>
      have q := k H1 (.same hT s1)
      have e : fitD ps d = false := by unfold fitD; rw [hq]; rfl
      rw [e] at q
      exact iteT (iteT q)
    | true =>
      obtain ⟨ds, rfl, _, lds⟩ := row_tup hq
      have e : fitD ps (.tuple ds) = (ds.all natD && (ps.flatMap (wins (ds.map numD) (spanP ps).toNat)).all id) := by unfold fitD; rw [hq]; rfl
      refine iteF ⟨_, rfl, ds, hd1.dq, T1 _ (by simp [tabs]), fun H2 t2 => ⟨_, rfl, ?_⟩⟩
      have u2 : UpL (tabs T) H1 H2 := .tab T1 t2 (by simp [tabs])
      have u02 := (UpL.same hT s1).trans u2
      cases ha : ds.all natD with
      | false =>
        have q := k H2 u02
        rw [e, ha] at q
        exact iteT q
      | true =>
        refine iteF (next_of ?_)
        dsimp only
        rw [ha, Bool.true_and] at e
        have st := u2.stay T1
        have hd2 := hd1.stay st
        have hL2 := hL1.stay st
        have ei := nat_ints ha
        generalize ens : ds.map numD = ns at *
        rw [ei] at hd2
        obtain ⟨a, xs, rfl, ea, oa⟩ := od_tup hd2
        have exs := od_ints oa
        subst exs
        obtain ⟨la, ls, rfl, el, ol⟩ := od_tup hL2
        have lls : ls.length = ps.length := by rw [ol.len, List.length_map]
        generalize hLn : (spanP ps).toNat = L at *
        have L11 : L ≤ 11 := by omega
        have l4 := hl.1
        refine ⟨_, rfl, la, rfl, ⟨ls, SqT.of el⟩, fun D hD => lp_it (walk_tup (K := K) (a := la) (xs := ls)) (fun i Hx => Same H2 Hx ∧ Hx D = some (.lst (((ps.take i).flatMap (wins ns L)).map V.bl))) ⟨same_upd hD, upd_same⟩ (fun i Hx _ q => SqT.of (q.1 _ _ el)) ?_ ?_⟩
        · rintro i x Hx Hx' hi ⟨s2, e2⟩ ⟨rfl, hx⟩
          obtain ⟨p, b, hp, rfl, eb⟩ := OdAll.pair ol hx
          have hip := (List.getElem?_eq_some_iff.mp hp).1
          have hpp := hl.2 p (List.mem_of_getElem? hp)
          refine ⟨b, _, rfl, SqT.of (s2 _ _ eb), rfl, _, _, rfl, _, _, rfl, rfl, rfl, ?_⟩
          unfold tYes
          dsimp only
          rw [if_pos rfl]
          refine ⟨_, rfl, spanP ps, rfl, by omega, by omega, ?_⟩
          rw [hLn]
          refine lp_it (walk_range (lo := 0) (n := L)) (fun j Hy => Same H2 Hy ∧ Hy D = some (.lst (((ps.take i).flatMap (wins ns L) ++ (List.range j).map (win ns p)).map V.bl))) ⟨s2, by rw [List.range_zero, List.map_nil, List.append_nil]; exact e2⟩ (fun _ _ _ _ => trivial) ?_ ?_
          · rintro j y Hy Hy' hj ⟨s3, e3⟩ ⟨rfl, rfl⟩
            refine ⟨rfl, ?_⟩
            refine iteT ?_
            have ej : (0 + (j : Int)) = ((j : Nat) : Int) := by omega
            have ew : (0 + (j : Int)) + p.2 = ((j + p.2.toNat : Nat) : Int) := by omega
            refine slice_sum (ns := ns) (i := j) (w := p.2.toNat) (a := a) (fun H' Q' q => ⟨_, rfl, q⟩) (fun H' Q' q => ⟨_, rfl, by show Q' (.int (0 + (j : Int))) H'; rw [ej]; exact q⟩) (fun H' Q' q => ⟨_, rfl, _, rfl, _, _, rfl, rfl, by show Q' (.int ((0 + (j : Int)) + p.2)) _; rw [ew]; exact q⟩) (s3 _ _ ea) fun H5 s5 => ?_
            have e5 := s5 _ _ e3
            refine ⟨_, rfl, _, _, rfl, rfl, _, e5, ?_, ?_, ?_⟩
            · rw [List.length_map, List.length_append, flat_len, List.length_map, List.length_range, List.length_take]
              have : min i ps.length * L ≤ 4 * 11 := Nat.mul_le_mul (by omega) L11
              omega
            · exact same_into hD (s3.trans s5)
            · rw [upd_same, List.range_succ, List.map_append (f := win ns p), ← List.append_assoc, List.map_append (l₂ := [j].map (win ns p))]
              rfl
          · rintro Hy ⟨s3, e3⟩
            refine ⟨s3, ?_⟩
            rw [List.take_add_one, hp, List.flatMap_append]
            show _ = some (HO.lst (((ps.take i).flatMap (wins ns L) ++ ([p] : List (Int × Int)).flatMap (wins ns L)).map V.bl))
            rw [List.flatMap_cons, List.flatMap_nil, List.append_nil]
            exact e3
        · rintro Hx ⟨s2, e2⟩
          rw [lls, List.take_length] at e2
          refine ⟨D, _, rfl, SqL.of e2, ?_⟩
          have q := k Hx (u02.trans (.same u2.1 s2))
          rw [e] at q
          exact q
/-- limits told first -/
def spCnt (ps0 : List Addr) : Sp := spFit ps0
theorem lim_ok {ps : List (Int × Int)} (h : Lim ps) : limsD (.tuple (ps.map prD)) = true := by
  have e1 : rowD (.tuple (ps.map prD)) 0 4 = true := by
    show (decide ((0 : Int) ≤ ((ps.map prD).length : Nat)) && decide ((((ps.map prD).length : Nat) : Int) ≤ 4)) = true
    have := h.1
    rw [List.length_map, Bool.and_eq_true, decide_eq_true_eq, decide_eq_true_eq]
    omega
  have e2 : (ps.map prD).all limD = true := by
    refine List.all_eq_true.mpr fun d hd => ?_
    obtain ⟨p, hp, rfl⟩ := List.mem_map.mp hd
    have := h.2 p hp
    show ((decide (1 ≤ p.1) && decide (p.1 ≤ 6)) && (decide (1 ≤ p.2) && decide (p.2 ≤ 12))) = true
    simp only [Bool.and_eq_true, decide_eq_true_eq]
    omega
  unfold limsD
  rw [e1]
  exact e2
theorem sc_cnt : FnScope ["limits", "value"] ["limits", "value"] (defScope s_are_counts) := ⟨rfl, rfl, rfl, by decide +kernel, rfl, by decide +kernel, by decide +kernel⟩
theorem ok_cnt (T : D K mg) (TB : Tabs base T) : FnOk P w K mg base CX0 7 T.f_are_counts T.d_are_counts ["limits", "value"] (spFit (tabs T)) := by
  refine T.U_are_counts.ok sc_cnt (fun vs H Q E h => ?_) (fun cdv A outer s H vs Q E hr h => ?_)
  · obtain ⟨lv, v, ps, d, rfl, _⟩ := h
    rfl
  · obtain ⟨lv, v, ps, d, rfl, hL, hl, hd, hT, k⟩ := h
    refine ⟨_, pss_cons (ps_expr (pe_call (ok_chk T TB) hr rfl T.g_check_limits T.U_check_limits.kp T.b_check_limits .nil pass0 (pa_cons (pv 0) pa_nil)))
      (pss_one (ps_ret (pe_call (ok_fit T TB) (hr.mono (by decide)) rfl T.g_fit T.U_fit.kp T.b_fit .nil pass0 (pa_cons (pv 0) (pa_cons (pv 1) pa_nil))))), ?_⟩
    refine ⟨_, rfl, lv, _, rfl, hL, lim_ok hl, hT, fun H1 u1 => ?_⟩
    have st := u1.stay hT
    exact ⟨_, rfl, _, rfl, lv, v, ps, d, rfl, hL.stay st, hl, hd.stay st, u1.1, fun H2 u2 => k H2 (u1.trans u2)⟩
end
end KP

set_option Elab.async false
set_option maxRecDepth 100000
set_option maxHeartbeats 4000000
set_option linter.all false
/-! Ours: the law's draws: the well, a pick, one of some things, one sign of a text. -/
namespace KP
open PySem PySem.Spec PyProof.Rows L2 Gr GxR
/-- a well stands at p -/
def Well (H : Hp) (p : Addr) : Prop := ∃ d m c : Int, H p = some (.lst [.int d, .int m, .int c])
/-- all is as it was but what stands at p -/
def But (H H' : Hp) (p : Addr) : Prop := ∀ b o, H b = some o → b ≠ p → H' b = some o
theorem But.trans {H H1 H2 : Hp} {p : Addr} (a : But H H1 p) (b : But H1 H2 p) : But H H2 p := fun c o h n => b c o (a c o h n) n
theorem But.refl (H : Hp) (p : Addr) : But H H p := fun _ _ h _ => h

def spPick : Sp := fun vs H Q _ => ∃ (p : Addr) (t : Int), vs = [.ref p, .int t] ∧ Well H p ∧ 0 < t ∧ t < 1073741824 ∧
  ∀ (r : Int) (H' : Hp), 0 ≤ r → r < t → Well H' p → But H H' p → Q (.int r) H'

section
variable {P : Program} {w : World} {K : PySem.W.Frag} {mg : Str → Option Value} {base : Heap}
theorem scP : FnScope ["_law_well_here", "_law_top", "_law_digit"] ["_law_well_here", "_law_top"] (defScope s_l_pick) := ⟨rfl, rfl, rfl, by decide +kernel, rfl, by decide +kernel, by decide +kernel⟩
theorem ok_l_pick (T : D K mg) : FnOk P w K mg base CX0 1 T.f_l_pick T.d_l_pick ["_law_well_here", "_law_top"] spPick := by
  refine T.U_l_pick.ok scP (fun vs H Q E h => ?_) (fun cdv A outer s H vs Q E hr h => ?_)
  · obtain ⟨p, t, rfl, _⟩ := h
    rfl
  · obtain ⟨p, t, rfl, ⟨d, m, c, hp⟩, ht, ht2, k⟩ := h
    refine ⟨_, pss_cons (ps_if (pt_cmpR op_gt (pe_ix ix_list (pv 0) pe_int (fun _ _ => rfl)) pe_int (nomark _))
        (pss_cons (ps_asg (pe_callB call_divmod (by rfl) T.divmod boot_divmod (pa_cons (pe_ix ix_list (pv 0) pe_int (fun _ _ => rfl)) (pa_cons (pv 1) pa_nil)))
          (pg_tup rfl (pgs_cons (pg_sub (pv 0) pe_int set_list) (pgs_cons (pg_name (i := 2) scP.nd rfl (.inl rfl)) pgs_nil))))
        (pss_one (ps_ret (pv 2)))) pss_nil)
      (pss_cons (ps_asg (pe_op op_add (pe_ix ix_list (pv 0) pe_int (fun _ _ => rfl)) pe_int) (pg_sub (pv 0) pe_int set_list))
      (pss_cons (ps_asg (pe_op op_mod (pe_callTy call_int1 (by rfl) T.int PyProof.Rows.boot_int (pa_cons (pe_op op_add (pe_op op_mul (pe_ix ix_list (pv 0) pe_int (fun _ _ => rfl)) pe_int)
          (pe_op op_mul pe_int (pe_ix ix_list (pv 0) pe_int (fun _ _ => rfl)))) pa_nil)) pe_int) (pg_sub (pv 0) pe_int set_list))
      (pss_one (ps_ret (pe_op op_mod (pe_callTy call_int1 (by rfl) T.int PyProof.Rows.boot_int (pa_cons (pe_op op_fdiv (pe_ix ix_list (pv 0) pe_int (fun _ _ => rfl)) pe_int) pa_nil)) (pv 1)))))), ?_⟩
    have a0 : ∀ x y z : V, atI [x, y, z] (0 : Int) = some x := fun _ _ _ => rfl
    have a1 : ∀ x y z : V, atI [x, y, z] (1 : Int) = some y := fun _ _ _ => rfl
    have a2 : ∀ x y z : V, atI [x, y, z] (2 : Int) = some z := fun _ _ _ => rfl
    refine ⟨_, rfl, p, _, 0, _, rfl, rfl, SqL.of hp, a0 _ _ _, d, 0, rfl, rfl, _, rfl, ?_⟩
    refine ite2 (fun hd => ?_) (fun hd => ?_)
    · refine ⟨_, rfl, p, _, 0, _, rfl, rfl, SqL.of hp, a0 _ _ _, _, rfl, d, t, rfl, ⟨ht, ht2⟩, fun q hq => ?_⟩
      have nq : p ≠ q := ne_of_none hp hq
      refine ⟨q, _, rfl, .inl (.inl upd_same), rfl, _, _, rfl, ?_⟩
      refine ⟨_, rfl, p, _, 0, 0, rfl, rfl, (by rw [upd_ne nq]; exact hp), rfl, ?_⟩
      refine ⟨_, _, rfl, rfl, ?_⟩
      refine ⟨_, rfl, k (d % t) _ (Int.emod_nonneg _ (by omega)) (Int.emod_lt_of_pos _ ht) ⟨d / t, m, c, upd_same⟩ fun b o e n => ?_⟩
      rw [upd_ne n, upd_ne (ne_of_none e hq)]
      exact e
    · refine ⟨_, rfl, p, _, 2, _, rfl, rfl, SqL.of hp, a2 _ _ _, c, 1, rfl, rfl, _, rfl, p, _, 2, 2, rfl, rfl, hp, rfl, ?_⟩
      refine ⟨_, rfl, p, _, 1, _, rfl, rfl, SqL.of upd_same, a1 _ _ _, m, 48271, rfl, rfl, .inr (by decide), _, rfl, p, _, 2, _, rfl, rfl, SqL.of upd_same, a2 _ _ _, 1013, c + 1, rfl, rfl, .inl (by decide), _, _, rfl, rfl, .inl ⟨_, rfl, _, _, rfl, rfl, (by show (0 : Int) < 2038074743; decide), ?_⟩⟩
      refine ⟨_, rfl, p, _, 1, 1, rfl, rfl, upd_same, rfl, ?_⟩
      refine ⟨_, rfl, p, _, 1, _, rfl, rfl, SqL.of upd_same, a1 _ _ _, _, 23, rfl, rfl, ⟨by decide, by decide⟩, .inl ⟨_, rfl, _, rfl, _, t, rfl, rfl, ht, ?_⟩⟩
      refine k _ _ (Int.emod_nonneg _ (by omega)) (Int.emod_lt_of_pos _ ht) ⟨_, _, _, upd_same⟩ fun b o e n => ?_
      rw [upd_ne n, upd_ne n]
      exact e
end
def spOne : Sp := fun vs H Q _ => ∃ (p q : Addr) (xs : List V), vs = [.ref p, .ref q] ∧ Well H p ∧ H q = some (.lst xs) ∧ q ≠ p ∧ 0 < xs.length ∧ xs.length ≤ 1000 ∧
  ∀ (i : Nat) (v : V) (H' : Hp), xs[i]? = some v → Well H' p → But H H' p → Q v H'
def spWell (K : PySem.W.Frag) : Sp := fun vs H Q _ => ∃ (a : Addr) (ns : List Int) (t : Int), vs = [.ref a, .int t] ∧ SqL K H a (ns.map V.int) ∧ 0 ≤ t ∧ ns.length ≤ 1000 ∧
  ∀ (q : Addr) (H' : Hp), H q = none → Well H' q → Same H H' → Q (.ref q) H'

section
variable {P : Program} {w : World} {K : PySem.W.Frag} {mg : Str → Option Value} {base : Heap}
theorem scO : FnScope ["_law_well_here", "_law_some"] ["_law_well_here", "_law_some"] (defScope s_l_one) := ⟨rfl, rfl, rfl, by decide +kernel, rfl, by decide +kernel, by decide +kernel⟩
theorem ok_l_one (T : D K mg) :
    FnOk P w K mg base CX0 2 T.f_l_one T.d_l_one ["_law_well_here", "_law_some"] spOne := by
  refine T.U_l_one.ok scO (fun vs H Q E h => ?_) (fun cdv A outer s H vs Q E hr h => ?_)
  · obtain ⟨p, q, xs, rfl, _⟩ := h
    rfl
  · obtain ⟨p, q, xs, rfl, hp, hq, nq, h0, h1, k⟩ := h
    refine ⟨_, pss_one (ps_ret (pe_ix ix_list (pv 1) (pe_call (ok_l_pick T) hr rfl T.g_l_pick T.U_l_pick.kp T.b_l_pick .nil pass0 (pa_cons (pv 0) (pa_cons (pe_callB call_len_seq (by rfl) T.len PySem.boot_len (pa_cons (pv 1) pa_nil)) pa_nil))) (fun _ _ => rfl))), ?_⟩
    refine ⟨_, rfl, _, rfl, _, rfl, q, xs, rfl, .inl (SqL.of hq), p, (xs.length : Int), rfl, hp, by omega, by omega, fun r H' r0 r1 hw hb => ?_⟩
    have hlt : r.toNat < xs.length := by omega
    have e : atI xs r = some (xs[r.toNat]) := by
      have := atI_nat (xs := xs) (j := r.toNat) (List.getElem?_eq_getElem hlt)
      rw [Int.toNat_of_nonneg r0] at this
      exact this
    exact ⟨q, xs, r, _, rfl, rfl, SqL.of (hb _ _ hq nq), e, k r.toNat _ H' (List.getElem?_eq_getElem hlt) hw hb⟩

theorem scW : FnScope ["_law_script", "_law_turn", "_law_mixed", "_law_each", "_law_cell", "_law_digits"] ["_law_script", "_law_turn"] (defScope s_l_well) := ⟨rfl, rfl, rfl, by decide +kernel, rfl, by decide +kernel, by decide +kernel⟩
theorem ok_l_well (T : D K mg) : FnOk P w K mg base CX0 1 T.f_l_well T.d_l_well ["_law_script", "_law_turn"] (spWell K) := by
  refine T.U_l_well.ok scW (fun vs H Q E h => ?_) (fun cdv A outer s H vs Q E hr h => ?_)
  · obtain ⟨a, ns, t, rfl, _⟩ := h
    rfl
  · obtain ⟨a, ns, t, rfl, hS, h0, hl, k⟩ := h
    refine ⟨_, pss_cons (ps_set (i := 2) scW.nd rfl (.inl rfl) (pe_op op_add pe_int (pe_op op_mul pe_int (pv 1))))
      (pss_cons (ps_for PassesOwn.never rfl (pi_list (pe_slice sl_list (pv 0) po_none (po_some pe_int))) (pg_name (i := 3) scW.nd rfl (.inl rfl))
        (pss_one (ps_set (i := 2) scW.nd rfl (.inl rfl) (pe_op op_mod (pe_callTy call_int1 (by rfl) T.int PyProof.Rows.boot_int (pa_cons
          (pe_op op_add (pe_op op_add (pe_op op_mul (pv 2) pe_int) (pe_op op_mul (pe_op op_mod (pe_callTy call_int1 (by rfl) T.int PyProof.Rows.boot_int (pa_cons (pv 3) pa_nil)) pe_int) pe_int)) pe_int) pa_nil)) pe_int))))
      (pss_cons (ps_set (i := 4) scW.nd rfl (.inl rfl) (pe_ifExp (pt_cmpR op_lt (pv 1) (pe_callB call_len_seq (by rfl) T.len PySem.boot_len (pa_cons (pv 0) pa_nil)) (nomark _))
        (pe_callTy call_int1 (by rfl) T.int PyProof.Rows.boot_int (pa_cons (pe_ix ix_list (pv 0) (pv 1) (fun _ _ => rfl)) pa_nil)) (pv 2)))
      (pss_cons (ps_set (i := 5) scW.nd rfl (.inl rfl) (pe_ifExp (pt_cmpR op_ge (pe_callB call_abs (by rfl) T.abs PyProof.Rows.boot_abs (pa_cons (pv 4) pa_nil)) (pe_op op_pow pe_int pe_int) (nomark _))
        (pe_callB call_abs (by rfl) T.abs PyProof.Rows.boot_abs (pa_cons (pv 4) pa_nil)) pe_int))
      (pss_cons (ps_set (i := 2) scW.nd rfl (.inl rfl) (pe_op op_mod (pe_callTy call_int1 (by rfl) T.int PyProof.Rows.boot_int (pa_cons
          (pe_op op_add (pe_op op_add (pe_op op_mul (pv 2) pe_int) (pe_op op_mul (pe_op op_mod (pe_callTy call_int1 (by rfl) T.int PyProof.Rows.boot_int (pa_cons (pv 4) pa_nil)) pe_int) pe_int)) pe_int) pa_nil)) pe_int))
      (pss_one (ps_ret (pe_lst (pa_cons (pv 5) (pa_cons (pv 2) (pa_cons pe_int pa_nil)))))))))), ?_⟩
    refine ⟨_, rfl, 5003, t, rfl, rfl, .inl (by decide), _, _, rfl, rfl, ?_⟩
    refine ⟨_, rfl, 9, rfl, a, _, rfl, hS, fun p0 hp0 => ?_⟩
    have s0 : Same H (upd H p0 (.lst (cutV (ns.map V.int) none (some 9)))) := fun b o e => by
      rw [upd_ne (ne_of_none e hp0)]
      exact e
    have cutInt : ∀ (i : Nat) (y : V), (cutV (ns.map V.int) none (some 9))[i]? = some y → ∃ z, y = V.int z := fun i y hy => by
      have hm := List.mem_of_mem_drop (List.mem_of_mem_take (List.mem_of_getElem? hy))
      obtain ⟨z, _, e⟩ := List.mem_map.mp hm
      exact ⟨z, e.symm⟩
    refine ⟨p0, rfl, ⟨_, SqL.of upd_same⟩, for_list (K := K) (a := p0) (xs := cutV (ns.map V.int) none (some 9))
      (fun i σ H2 => ∃ (m : Int) (v : Option V), σ = [some (.ref a), some (.int t), some (.int m), v, none, none] ∧ H2 = upd H p0 (.lst (cutV (ns.map V.int) none (some 9))))
      ⟨_, none, rfl, rfl⟩ (fun i σ H2 _ ⟨_, _, _, e⟩ => by rw [e]; exact SqL.of upd_same) ?_ ?_⟩
    · rintro i y σ H2 hi ⟨m, v, rfl, rfl⟩
      obtain ⟨z, rfl⟩ := cutInt i y hi
      have hP : (0 : Int) < 2038074743 := by decide
      exact ⟨_, rfl, m, 30011, rfl, rfl, .inr (by decide), _, rfl, .inl ⟨z, rfl, z, 2038074743, rfl, rfl, hP, _, 7001, rfl, rfl, .inr (by decide), _, _, rfl, rfl, _, 13, rfl, rfl,
        .inl ⟨_, rfl, _, 2038074743, rfl, rfl, hP, _, _, rfl, rfl⟩⟩⟩
    · rintro σ H2 ⟨m, v, rfl, rfl⟩
      have hP : (0 : Int) < 2038074743 := by decide
      refine ⟨_, rfl, _, rfl, a, _, rfl, .inl (s0.seq hS), t, _, rfl, rfl, _, rfl, ?_⟩
      refine ite2 (fun hlt => ?_) (fun _ => ?_)
      · have hlt' : t < ((ns.map V.int).length : Int) := of_decide_eq_true hlt
        rw [List.length_map] at hlt'
        have hj : t.toNat < (ns.map V.int).length := by
          rw [List.length_map]
          omega
        have e : atI (ns.map V.int) t = some (.int (ns[t.toNat]'(by omega))) := by
          have q := atI_nat (xs := ns.map V.int) (j := t.toNat) (List.getElem?_eq_getElem hj)
          rw [Int.toNat_of_nonneg h0, List.getElem_map] at q
          exact q
        refine ⟨_, rfl, _, rfl, a, _, t, _, rfl, rfl, s0.seq hS, e, .inl ⟨_, rfl, ?_⟩⟩
        refine ⟨_, rfl, _, rfl, 10, 18, rfl, rfl, ⟨by decide, by decide, by decide⟩, _, _, rfl, rfl, _, rfl, ?_⟩
        refine ite2 (fun _ => ?_) (fun _ => ?_)
        · refine ⟨_, rfl, _, rfl, ?_⟩
          exact ⟨_, rfl, _, 16807, rfl, rfl, .inr (by decide), _, rfl, .inl ⟨_, rfl, _, 2038074743, rfl, rfl, hP, _, 39373, rfl, rfl, .inr (by decide), _, _, rfl, rfl, _, 29, rfl, rfl,
            .inl ⟨_, rfl, _, 2038074743, rfl, rfl, hP, _, rfl, _, rfl, by show 3 ≤ sizeLine; decide, fun p1 hp1 => k p1 _ (s0.free hp1) ⟨_, _, _, upd_same⟩ (s0.trans fun b o e => by rw [upd_ne (ne_of_none e hp1)]; exact e)⟩⟩⟩
        · exact ⟨_, rfl, _, 16807, rfl, rfl, .inr (by decide), _, rfl, .inl ⟨_, rfl, _, 2038074743, rfl, rfl, hP, _, 39373, rfl, rfl, .inr (by decide), _, _, rfl, rfl, _, 29, rfl, rfl,
            .inl ⟨_, rfl, _, 2038074743, rfl, rfl, hP, _, rfl, _, rfl, by show 3 ≤ sizeLine; decide, fun p1 hp1 => k p1 _ (s0.free hp1) ⟨_, _, _, upd_same⟩ (s0.trans fun b o e => by rw [upd_ne (ne_of_none e hp1)]; exact e)⟩⟩⟩
      · refine ⟨_, rfl, ?_⟩
        refine ⟨_, rfl, _, rfl, 10, 18, rfl, rfl, ⟨by decide, by decide, by decide⟩, _, _, rfl, rfl, _, rfl, ?_⟩
        refine ite2 (fun _ => ?_) (fun _ => ?_)
        · refine ⟨_, rfl, _, rfl, ?_⟩
          exact ⟨_, rfl, _, 16807, rfl, rfl, .inr (by decide), _, rfl, .inl ⟨_, rfl, _, 2038074743, rfl, rfl, hP, _, 39373, rfl, rfl, .inr (by decide), _, _, rfl, rfl, _, 29, rfl, rfl,
            .inl ⟨_, rfl, _, 2038074743, rfl, rfl, hP, _, rfl, _, rfl, by show 3 ≤ sizeLine; decide, fun p1 hp1 => k p1 _ (s0.free hp1) ⟨_, _, _, upd_same⟩ (s0.trans fun b o e => by rw [upd_ne (ne_of_none e hp1)]; exact e)⟩⟩⟩
        · exact ⟨_, rfl, _, 16807, rfl, rfl, .inr (by decide), _, rfl, .inl ⟨_, rfl, _, 2038074743, rfl, rfl, hP, _, 39373, rfl, rfl, .inr (by decide), _, _, rfl, rfl, _, 29, rfl, rfl,
            .inl ⟨_, rfl, _, 2038074743, rfl, rfl, hP, _, rfl, _, rfl, by show 3 ≤ sizeLine; decide, fun p1 hp1 => k p1 _ (s0.free hp1) ⟨_, _, _, upd_same⟩ (s0.trans fun b o e => by rw [upd_ne (ne_of_none e hp1)]; exact e)⟩⟩⟩
end

/-- one sign of a text -/
def spOneS : Sp := fun vs H Q _ => ∃ (p : Addr) (z : Str), vs = [.ref p, .str z] ∧ Well H p ∧ 0 < z.length ∧ z.length ≤ 1000 ∧
  ∀ (c : Nat) (H' : Hp), c ∈ z.cps.toList → Well H' p → But H H' p → Q (.str ⟨#[c]⟩) H'
section
variable {P : Program} {w : World} {K : PySem.W.Frag} {mg : Str → Option Value} {base : Heap}
theorem ok_l_oneS (T : D K mg) : FnOk P w K mg base CX0 2 T.f_l_one T.d_l_one ["_law_well_here", "_law_some"] spOneS := by
  refine T.U_l_one.ok scO (fun vs H Q E h => ?_) (fun cdv A outer s H vs Q E hr h => ?_)
  · obtain ⟨p, z, rfl, _⟩ := h
    rfl
  · obtain ⟨p, z, rfl, hp, h0, h1, k⟩ := h
    refine ⟨_, pss_one (ps_ret (pe_ix ix_str (pv 1) (pe_call (ok_l_pick T) hr rfl T.g_l_pick T.U_l_pick.kp T.b_l_pick .nil pass0 (pa_cons (pv 0) (pa_cons (pe_callB call_len_str (by rfl) T.len PySem.boot_len (pa_cons (pv 1) pa_nil)) pa_nil))) (fun _ _ => rfl))), ?_⟩
    refine ⟨_, rfl, _, rfl, _, rfl, z, rfl, Nat.le_trans h1 (by decide), ?_⟩
    refine ⟨p, _, rfl, hp, by omega, by omega, fun r H' r0 r1 hw hb => ?_⟩
    have hlt : r.toNat < z.cps.toList.length := by
      have e : z.cps.toList.length = z.length := rfl
      omega
    have e : atI z.cps.toList r = some (z.cps.toList[r.toNat]) := by
      have := atI_nat (xs := z.cps.toList) (j := r.toNat) (List.getElem?_eq_getElem hlt)
      rw [Int.toNat_of_nonneg r0] at this
      exact this
    exact ⟨z, r, _, rfl, rfl, Nat.le_trans h1 (by decide), e, k _ H' (List.getElem_mem hlt) hw hb⟩
end
end KP

set_option Elab.async false
set_option maxRecDepth 100000
set_option maxHeartbeats 4000000
set_option linter.all false
/-! Ours: the law's look at patterns, its signs, its alphabet. -/
namespace KP
open PySem PySem.Spec PyProof.Rows L2 Gr GxR
/-- texts of one sign each -/
def oneV (l : List Nat) : List V := l.map fun c => V.str ⟨#[c]⟩
theorem oneV_len (l : List Nat) : (oneV l).length = l.length := List.length_map _
theorem take_filt {l : List Nat} (g : Nat → Bool) {i c : Nat} (h : l[i]? = some c) : (l.take (i + 1)).filter g = (l.take i).filter g ++ (if g c = true then [c] else []) := by
  rw [List.take_add_one, h, List.filter_append]
  cases ht : g c <;> simp [ht]
def oneD (l : List Nat) : PyData := .list (l.map fun c => PyData.str ⟨#[c]⟩)
theorem dpAll_one {K : PySem.W.Frag} {H : Hp} : ∀ l : List Nat, DpAll K H (oneV l) (l.map fun c => PyData.str ⟨#[c]⟩)
  | [] => .nil
  | c :: l => .cons (.str _) (dpAll_one l)
theorem one_ok {l : List Nat} (h : ∀ c ∈ l, c < 1114112) : PyData.canLayAll0 (l.map fun c => PyData.str ⟨#[c]⟩) = true := by
  induction l with
  | nil => rfl
  | cons c l ih =>
    have h1 := h c List.mem_cons_self
    have h2 := ih fun d hd => h d (List.mem_cons_of_mem _ hd)
    simp [PyData.canLayAll0, PyData.canLay0, PyData.strOk, h1, h2]
theorem one_depth (l : List Nat) : PyData.depthAll (l.map fun c => PyData.str ⟨#[c]⟩) ≤ 3 := by
  induction l with
  | nil => simp [PyData.depthAll]
  | cons c l ih =>
    simp only [List.map_cons, PyData.depthAll, PyData.depth]
    omega
theorem one_shaped {l : List Nat} (h : ∀ c ∈ l, c < 1114112) : SeqAt.shaped (oneD l) = true := by
  have h1 := one_ok h
  have h2 := one_depth l
  rw [SeqAt.shaped.eq_def]
  unfold oneD
  simp only [PyData.canLay0, PyData.depth, h1, Bool.true_and]
  exact decide_eq_true (by omega)
theorem one_eqv (l : List Nat) : PyData.eqv (oneD l) (.list []) = l.isEmpty := by
  cases l with
  | nil => rfl
  | cons c l => rfl
/-- a text's signs are signs of texts -/
def GoodD : PyData → Prop
  | .str z => z.length ≤ 1000 ∧ ∀ c ∈ z.cps.toList, c < 1114112
  | _ => True
theorem filt_all (l : List Nat) (g : Nat → Bool) : (l.filter fun c => !g c).isEmpty = l.all g := by
  induction l with
  | nil => rfl
  | cons c l ih =>
    cases h : g c <;> simp [h] at ih ⊢
    exact ih
def spLook (f : PyData → Bool) : Sp := fun vs H Q _ => ∃ v d, vs = [v] ∧ Od H v d ∧ GoodD d ∧ ∀ H', Same H H' → Q (.bl (f d)) H'
def spSigns : Sp := fun vs H Q _ => vs = [] ∧ Q (.str SGs) H
/-- the signs so far that g doesn't take, as a list at D -/
def Lk (H : Hp) (D : Addr) (l : List Nat) (g : Nat → Bool) (i : Nat) (H3 : Hp) : Prop := Same H H3 ∧ H3 D = some (.lst (oneV ((l.take i).filter fun c => !g c)))
theorem Lk.yes {H H3 : Hp} {D : Addr} {l : List Nat} {g : Nat → Bool} {i c : Nat} (hD : H D = none) (s : Lk H D l g i H3) (hcl : l[i]? = some c) (hz : l.length ≤ 1000) (h : (!g c) = true) :
    ∃ acc, H3 D = some (.lst acc) ∧ acc.length < sizeLine ∧ Lk H D l g (i + 1) (upd H3 D (.lst (acc ++ [V.str ⟨#[c]⟩]))) := by
  have mz : 5000 ≤ sizeLine := by decide
  refine ⟨_, s.2, ?_, same_into hD s.1, ?_⟩
  · rw [oneV_len]
    have h1 := List.length_filter_le (fun c => !g c) (l.take i)
    rw [List.length_take] at h1
    omega
  · rw [upd_same, take_filt (fun c => !g c) hcl, if_pos h]
    unfold oneV
    rw [List.map_append]
    rfl
theorem Lk.no {H H3 : Hp} {D : Addr} {l : List Nat} {g : Nat → Bool} {i c : Nat} (s : Lk H D l g i H3) (hcl : l[i]? = some c) (h : ¬ (!g c) = true) : Lk H D l g (i + 1) H3 := by
  refine ⟨s.1, ?_⟩
  rw [take_filt (fun c => !g c) hcl, if_neg h, List.append_nil]
  exact s.2
section
variable {P : Program} {w : World} {K : PySem.W.Frag} {mg : Str → Option Value} {base : Heap}
theorem sc_l_signs : FnScope [] [] (defScope s_l_signs) := ⟨rfl, rfl, rfl, by decide +kernel, rfl, by decide +kernel, by decide +kernel⟩
theorem ok_l_signs (T : D K mg) : FnOk P w K mg base CX0 1 T.f_l_signs T.d_l_signs [] spSigns := by
  refine T.U_l_signs.ok sc_l_signs (fun vs H Q E h => ?_) (fun cdv A outer s H vs Q E hr h => ?_)
  · rw [h.1]
    rfl
  · obtain ⟨rfl, k⟩ := h
    exact ⟨_, pss_one (ps_ret pe_str), k⟩
end
theorem cut_one (z : Str) : decide (V.str (cutS z none (some 1)) = V.str "/") = (z.cps.toList[0]? == some 47) := by
  rw [Bool.eq_iff_iff, decide_eq_true_eq, beq_iff_eq]
  have e : (cutS z none (some 1)).cps.toList = z.cps.toList.take 1 := cut_to z 1
  have e2 : ("/" : Str).cps.toList = [47] := by rw [lit_slash]
  cases h : z.cps.toList with
  | nil =>
    rw [h] at e
    constructor
    · intro q
      have := congrArg (fun x : Str => x.cps.toList) (V.str.inj q)
      rw [e, e2] at this
      cases this
    · intro q
      cases q
  | cons c l =>
    rw [h] at e
    constructor
    · intro q
      have := congrArg (fun x : Str => x.cps.toList) (V.str.inj q)
      rw [e, e2] at this
      have h3 : c = 47 := (List.cons.inj this).1
      rw [h3]
      rfl
    · intro q
      have hc : c = 47 := Option.some.inj q
      subst hc
      exact congrArg V.str (tx_ext (by rw [e, e2]; rfl))
theorem cut_mid (z : Str) : (cutS z (some 1) (some (-1))).cps.toList = z.cps.toList.dropLast.drop 1 := by
  unfold cutS
  show ((z.cps.toList.drop (HT.sIx z.length 0 (some ((1 : Nat) : Int)))).take (HT.sIx z.length z.length (some (-1)) - HT.sIx z.length 0 (some ((1 : Nat) : Int)))) = _
  have e1 : HT.sIx z.length z.length (some (-1)) = z.cps.toList.length - 1 := by
    unfold HT.sIx
    rw [tx_len]
    simp
    omega
  rw [e1, HT.sIx_nat, tx_len, List.dropLast_eq_take]
  cases h : z.cps.toList with
  | nil => rfl
  | cons c l =>
    have e2 : min 1 (c :: l).length = 1 := by rw [List.length_cons]; omega
    rw [e2, List.length_cons, Nat.add_sub_cancel]
    show l.take (l.length - 1) = ((c :: l).take l.length).drop 1
    rw [List.drop_take]
    rfl
/-- what the law looks through -/
def restOf (z : Str) : List Nat := if z.cps.toList.getLast? == some 36 then z.cps.toList.dropLast.drop 1 else z.cps.toList.drop 1
theorem pat_look {z : Str} (h1 : decide (1 ≤ z.length) = true) (h2 : decide (z.length ≤ 12) = true) (h47 : z.cps.toList[0]? = some 47) : isPat z = (restOf z).all (fun c => c == 42 || decide (c ∈ SG)) := by
  unfold isPat
  rw [h1, h2, Bool.true_and, Bool.true_and]
  cases hz : z.cps.toList with
  | nil => rw [hz] at h47; cases h47
  | cons c l =>
    rw [hz] at h47
    have hc : c = 47 := Option.some.inj h47
    subst hc
    have s47 : (47 : Nat) ∈ SG := by decide +kernel
    unfold innerOf restOf
    rw [hz]
    cases l with
    | nil =>
      simp [s47]
    | cons d l =>
      cases hl : (47 :: d :: l).getLast? == some 36 with
      | true => simp [s47]
      | false => simp [s47]
theorem atI_last' {α : Type} {xs : List α} (h : 0 < xs.length) : ∃ v, atI xs (-1) = some v ∧ xs.getLast? = some v := by
  have hn : xs ≠ [] := fun e => by rw [e] at h; cases h
  have := atI_last xs.dropLast (xs.getLast hn)
  rw [List.dropLast_concat_getLast hn] at this
  exact ⟨_, this, List.getLast?_eq_some_getLast hn⟩
def starSG : Str := SGs ++ ("*" : Str)
theorem starSG_mem (c : Nat) : decide (c ∈ starSG.cps.toList) = (c == 42 || decide (c ∈ SG)) := by
  have e : starSG.cps.toList = SG ++ [42] := by
    unfold starSG
    rw [lit_star]
    exact tx_app _ _
  rw [e, Bool.eq_iff_iff, decide_eq_true_eq, Bool.or_eq_true, beq_iff_eq, decide_eq_true_eq, List.mem_append, List.mem_singleton]
  exact Or.comm
theorem set_pure {te : TE} {i : Nat} {rest : TS} {E : Ends} {σ : L2.St} {H : Hp} (v : V) (h : ∀ Q' : VK, Q' v H → te σ H Q') (k : rest E (σ.set i (some v)) H) : tSeq (tAsg te (gName i)) rest E σ H := h _ k
def uOf (z : Str) : Str := if z.cps.toList.getLast? == some 36 then cutS z (some 1) (some (-1)) else cutS z (some 1) none
theorem uOf_list (z : Str) : (uOf z).cps.toList = restOf z := by
  unfold uOf restOf
  split
  · exact cut_mid z
  · exact cut_from z 1
theorem uOf_len (z : Str) : (uOf z).length ≤ z.length := by
  unfold uOf
  split <;> exact cutS_length _ _ _
theorem rest_mem {z : Str} {c : Nat} (h : c ∈ restOf z) : c ∈ z.cps.toList := by
  unfold restOf at h
  split at h
  · exact List.dropLast_subset _ (List.mem_of_mem_drop h)
  · exact List.mem_of_mem_drop h
section
variable {P : Program} {w : World} {K : PySem.W.Frag} {mg : Str → Option Value} {base : Heap}
theorem sc_lpat : FnScope ["_law_value", "_law_inner", "_law_sign"] ["_law_value"] (defScope s_l_is_pattern) := ⟨rfl, rfl, rfl, by decide +kernel, rfl, by decide +kernel, by decide +kernel⟩
theorem ok_lpat (T : D K mg) : FnOk P w K mg base CX0 2 T.f_l_is_pattern T.d_l_is_pattern ["_law_value"] (spLook patD) := by
  refine T.U_l_is_pattern.ok sc_lpat (fun vs H Q E h => ?_) (fun cdv A outer s H vs Q E hr h => ?_)
  · obtain ⟨v, d, rfl, _⟩ := h
    rfl
  · obtain ⟨v, d, rfl, hd, hg, k⟩ := h
    have nd := sc_lpat.nd
    refine ⟨_, pss_cons (ps_if (PW.pt (pw_or (pt_not (pt_val (pe_callB call_isi (by rfl) T.isinstance (by decide +kernel) (pa_cons (pv 0) (pa_cons (pe_bltn (v := .ty "str") (by rfl) T.str (by decide +kernel) rfl) pa_nil))))) (pw_or (pt_not (pt_chain op_le op_le pe_int (pe_callB call_len_str (by rfl) T.len PySem.boot_len (pa_cons (pv 0) pa_nil)) pe_int)) (pw_or1 (pt_cmpR op_ne (pe_ix ix_str (pv 0) pe_int (fun _ _ => rfl)) pe_str (nomark _))))))
        (pss_one (ps_ret pe_bl))
        (pss_nil))
      (pss_cons (ps_set (i := 1) nd rfl (.inl rfl) (pe_ifExp (PW.pt (pw_and (pt_cmpR op_gt (pe_callB call_len_str (by rfl) T.len PySem.boot_len (pa_cons (pv 0) pa_nil)) pe_int (nomark _)) (pw_and1 (pt_cmpR op_eq (pe_ix ix_str (pv 0) (pe_un un_neg pe_int) (fun _ _ => rfl)) pe_str (nomark _))))) (pe_slice sl_str (pv 0) (po_some pe_int) (po_some (pe_un un_neg pe_int))) (pe_slice sl_str (pv 0) (po_some pe_int) po_none)))
      (pss_one (ps_ret (pe_cmpR (op_eqD hr.units) (pe_lc (own := [("_law_sign", 2)]) (g := gName 2) rfl nd (pi_str (pv 1)) (blkOk_by (N := ["_law_value", "_law_inner", "_law_sign"]) (sc := defScope s_l_is_pattern) (by decide +kernel)) (fun _ _ _ _ _ => pg_name (i := 2) nd rfl (.inl rfl)) (fun _ _ _ _ _ => (pts_one (pt_cmpR op_notIn_sign (pv 2) (pe_op op_add_str (pe_call0 (ok_l_signs T) hr (by rfl) T.g_l_signs T.U_l_signs.kp T.b_l_signs .nil pass0) pe_str) rfl))) (fun _ _ _ _ _ => pv 2)) (pe_lst pa_nil) (nomark _))))), ?_⟩
    refine ⟨_, rfl, _, _, _, _, _, rfl, .ty _, hd.ty, kStr d, _, rfl, ?_⟩
    rcases str_or hd with ⟨z, rfl, rfl⟩ | hn
    case inr => exact iteT' (by rw [hn]; rfl) (by rw [← no_pat hn]; exact k H (.refl _))
    refine iteF ?_
    have k : ∀ H', Same H H' → Q (.bl (isPat z)) H' := k
    obtain ⟨hl, hc⟩ : z.length ≤ 1000 ∧ ∀ c ∈ z.cps.toList, c < 1114112 := hg
    have hz : z.length ≤ sizeLine := Nat.le_trans hl (by decide)
    refine ⟨_, rfl, _, rfl, hz, _, _, rfl, rfl, _, rfl, ?_⟩
    have bad : (decide (1 ≤ z.length) && decide (z.length ≤ 12)) = false → isPat z = false := fun e => by unfold isPat; rw [e]; rfl
    have out : isPat z = false → Q (.bl false) H := fun e => by
      have q := k H (.refl _)
      rw [e] at q
      exact q
    have d1 : decide ((1 : Int) ≤ (z.length : Nat)) = decide (1 ≤ z.length) := by
      apply decide_eq_decide.mpr
      omega
    have d2 : decide (((z.length : Nat) : Int) ≤ 12) = decide (z.length ≤ 12) := by
      apply decide_eq_decide.mpr
      omega
    rw [d1]
    cases h1 : decide (1 ≤ z.length) with
    | false => exact iteF ⟨_, rfl, iteT (out (bad (by rw [h1]; rfl)))⟩
    | true =>
      refine iteT ⟨_, _, rfl, rfl, _, rfl, ?_⟩
      rw [d2]
      cases h2 : decide (z.length ≤ 12) with
      | false => exact iteT (out (bad (by rw [h1, h2]; rfl)))
      | true =>
        have zl : 1 ≤ z.length := of_decide_eq_true h1
        have zb : 0 < z.cps.toList.length := zl
        obtain ⟨c0, hc0⟩ : ∃ c, z.cps.toList[0]? = some c := ⟨_, List.getElem?_eq_getElem zb⟩
        refine iteF ⟨_, rfl, z, 0, c0, rfl, rfl, hz, atI_nat (j := 0) hc0, rfl, _, rfl, ?_⟩
        by_cases h47 : c0 = 47
        case neg =>
          refine iteT' ?_ (out ?_)
          · have : ¬ V.str ⟨#[c0]⟩ = V.str "/" := fun q => h47 (by rw [lit_slash] at q; exact one_inj.mp (V.str.inj q))
            rw [decide_eq_false this]
            rfl
          · have : ¬ ((innerOf z)[0]? == some 47) = true := by
              intro q
              apply h47
              unfold innerOf at q
              rw [beq_iff_eq] at q
              split at q
              · rw [List.getElem?_dropLast] at q
                split at q
                · rw [hc0] at q
                  exact Option.some.inj q
                · cases q
              · rw [hc0] at q
                exact Option.some.inj q
            unfold isPat
            rw [Bool.eq_false_iff.mpr this, Bool.false_and, Bool.and_false]
        subst h47
        have hne : (!decide (V.str ⟨#[47]⟩ = V.str "/")) = false := by rw [lit_slash]; simp
        rw [hne]
        refine iteF (next_of ?_)
        dsimp only
        obtain ⟨cl, hl1, hl2⟩ := atI_last' zb
        -- the rest, as a text
        refine set_pure (V.str (uOf z)) (fun Q' q' => ?_) ?_
        · refine ⟨_, rfl, _, rfl, hz, _, _, rfl, rfl, _, rfl, ite2 (fun h => ?_) (fun h => ?_)⟩
          · refine ⟨_, rfl, _, rfl, z, _, cl, rfl, rfl, hz, hl1, rfl, _, rfl, ite2 (fun h => ?_) (fun h => ?_)⟩
            · have h36 : cl = 36 := by
                have := of_decide_eq_true h
                rw [lit_dollar] at this
                exact one_inj.mp (V.str.inj this)
              have e : (z.cps.toList.getLast? == some 36) = true := by rw [hl2, h36]; rfl
              unfold uOf at q'
              rw [if_pos e] at q'
              exact ⟨_, rfl, _, rfl, _, rfl, _, rfl, z, rfl, hz, q'⟩
            · have e : ¬ (z.cps.toList.getLast? == some 36) = true := by
                rw [hl2]
                intro q
                have h36 : cl = 36 := by simpa using q
                exact h (decide_eq_true (by rw [h36, lit_dollar]))
              unfold uOf at q'
              rw [if_neg e] at q'
              exact ⟨_, rfl, _, rfl, z, rfl, hz, q'⟩
          · have e : ¬ (z.cps.toList.getLast? == some 36) = true := by
              have l1 : z.cps.toList.length = 1 := by
                have : ¬ (1 : Int) < (z.length : Nat) := fun q => h (decide_eq_true q)
                have h3 : z.cps.toList.length = z.length := rfl
                omega
              match hzl : z.cps.toList, l1 with
              | [c], _ =>
                rw [hzl] at hc0
                have : c = 47 := Option.some.inj hc0
                rw [this]
                decide
            unfold uOf at q'
            rw [if_neg e] at q'
            exact ⟨_, rfl, _, rfl, z, rfl, hz, q'⟩
        · have ul : (uOf z).cps.toList.length ≤ 1000 := Nat.le_trans (uOf_len z) hl
          have eP : isPat z = (uOf z).cps.toList.all (fun c => decide (c ∈ starSG.cps.toList)) := by
            rw [pat_look h1 h2 hc0, uOf_list]
            congr 1
            funext c
            exact (starSG_mem c).symm
          refine ⟨_, rfl, uOf z, rfl, fun D hD => lc_it (walk_str (z := uOf z)) (Lk H D (uOf z).cps.toList (fun c => decide (c ∈ starSG.cps.toList))) ⟨same_upd hD, upd_same⟩ (fun _ _ _ _ => trivial) ?_ ?_⟩
          · rintro i x H3 H4 hi s3 ⟨rfl, c, hc2, rfl⟩
            have hcl : (uOf z).cps.toList[i]? = some c := (Array.getElem?_toList (xs := (uOf z).cps) (i := i)).trans hc2
            exact ⟨rfl, _, rfl, rfl, _, _, rfl, rfl, (by decide +kernel), c, starSG, rfl, rfl, _, rfl, ite2 (fun h => ⟨_, rfl, s3.yes hD hcl ul h⟩) (fun h => s3.no hcl h)⟩
          · rintro H3 ⟨s3, hDs⟩
            have e : (uOf z).cps.toList.take (uOf z).cps.size = (uOf z).cps.toList := List.take_of_length_le (Nat.le_refl _)
            rw [e] at hDs
            refine ⟨by show 0 ≤ sizeLine; omega, fun m hm => ⟨oneD ((uOf z).cps.toList.filter fun c => !decide (c ∈ starSG.cps.toList)), .list [], .lst (SqL.of (same_upd hm _ _ hDs)) (dpAll_one _), .lst (SqL.of upd_same) .nil, one_shaped (fun c hcm => hc c (rest_mem (by rw [← uOf_list]; exact (List.mem_filter.mp hcm).1))), by decide +kernel, ?_⟩⟩
            rw [one_eqv, filt_all, ← eP]
            exact k _ (s3.trans (same_upd hm))
end
def OneS (v : V) : Prop := ∃ c ∈ SG, v = .str ⟨#[c]⟩
def spAlph : Sp := fun vs H Q _ => ∃ p : Addr, vs = [.ref p] ∧ Well H p ∧ ∀ (q : Addr) (xs : List V) (H' : Hp), H q = none → But H H' p → Well H' p → H' q = some (.lst xs) → 0 < xs.length → xs.length ≤ 9 → (∀ v ∈ xs, OneS v) → Q (.ref q) H'
theorem SGs_len : SGs.length ≤ 1000 := by decide +kernel
theorem SGs_pos : 0 < SGs.length := by decide +kernel
theorem slash_in : 47 ∈ SG := by decide +kernel
theorem But.mk' {H H' : Hp} {p : Addr} (s : Same H H') : But H H' p := fun b o e _ => s b o e
section
variable {P : Program} {w : World} {K : PySem.W.Frag} {mg : Str → Option Value} {base : Heap}
theorem sc_alph : FnScope ["_law_well_here", "_law_turn"] ["_law_well_here"] (defScope s_l_alphabet) := ⟨rfl, rfl, rfl, by decide +kernel, rfl, by decide +kernel, by decide +kernel⟩
theorem ok_l_alphabet (T : D K mg) : FnOk P w K mg base CX0 3 T.f_l_alphabet T.d_l_alphabet ["_law_well_here"] spAlph := by
  refine T.U_l_alphabet.ok sc_alph (fun vs H Q E h => ?_) (fun cdv A outer s H vs Q E hr h => ?_)
  · obtain ⟨p, rfl, _⟩ := h
    rfl
  · obtain ⟨p, rfl, hp, k⟩ := h
    have nd := sc_alph.nd
    refine ⟨_, pss_one (ps_ret (pe_op op_cat (pe_lc (own := [("_law_turn", 1)]) (g := gName 1) (tt := tYes) rfl nd (pi_range1 rfl T.range (pa_cons (pe_op op_add pe_int (pe_call (ok_l_pick T) (hr.mono (by decide)) rfl T.g_l_pick T.U_l_pick.kp T.b_l_pick .nil pass0 (pa_cons (pv 0) (pa_cons pe_int pa_nil)))) pa_nil)) (blkOk_by (N := ["_law_well_here", "_law_turn"]) (sc := defScope s_l_alphabet) (by decide +kernel)) (fun _ _ _ _ _ => pg_name (i := 1) nd rfl (.inl rfl)) (fun _ _ _ _ _ => pts_nil) (fun _ _ _ _ _ => pe_call (ok_l_oneS T) hr rfl T.g_l_one T.U_l_one.kp T.b_l_one .nil pass0 (pa_cons (pv 0) (pa_cons (pe_call0 (ok_l_signs T) (hr.mono (by decide)) (by rfl) T.g_l_signs T.U_l_signs.kp T.b_l_signs .nil pass0) pa_nil)))) (pe_op op_rep (pe_lst (pa_cons pe_str pa_nil)) (pe_call (ok_l_pick T) (hr.mono (by decide)) rfl T.g_l_pick T.U_l_pick.kp T.b_l_pick .nil pass0 (pa_cons (pv 0) (pa_cons pe_int pa_nil)))))), ?_⟩
    have npD : ∀ {H1 : Hp} {D : Addr}, Well H1 p → H1 D = none → D ≠ p := fun {H1 D} ⟨_, _, _, e⟩ hD z => by
      rw [z, e] at hD
      cases hD
    refine ⟨_, rfl, p, 2, rfl, hp, by decide, by decide, fun n H1 n0 n1 w1 b1 => ⟨_, _, rfl, rfl, ?_⟩⟩
    refine ⟨_, rfl, by omega, by omega, fun D hD => lc_range (lo := 0) (n := _) (fun i H2 => But H1 H2 p ∧ Well H2 p ∧ ∃ xs : List V, H2 D = some (.lst xs) ∧ xs.length = i ∧ ∀ v ∈ xs, OneS v) ⟨But.mk' (same_upd hD), ?_, [], upd_same, rfl, fun v hv => nomatch hv⟩ ?_ ?_⟩
    · obtain ⟨a, b, c, e⟩ := w1
      exact ⟨a, b, c, (upd_ne (Ne.symm (npD ⟨a, b, c, e⟩ hD))).trans e⟩
    · rintro i H2 hi ⟨b2, w2, xs, hDs, hl, hx⟩
      have hi3 : i < 3 := by omega
      refine ⟨rfl, ?_⟩
      unfold tYes
      refine iteT ⟨_, rfl, ?_⟩
      refine ⟨rfl, p, SGs, rfl, w2, SGs_pos, SGs_len, fun c H3 hc w3 b3 => ⟨xs, b3 _ _ hDs (npD w1 hD), ?_, ?_, ?_, xs ++ [.str ⟨#[c]⟩], upd_same, ?_, ?_⟩⟩
      · exact small1000 (by omega)
      · intro x o e n
        have q := b3 _ _ (b2 _ _ e n) n
        rw [upd_ne (ne_of_none e hD)]
        exact q
      · obtain ⟨a, b, c', e⟩ := w3
        exact ⟨a, b, c', (upd_ne (Ne.symm (npD w1 hD))).trans e⟩
      · rw [List.length_append, hl]
        rfl
      · intro v hv
        rcases List.mem_append.mp hv with q | q
        · exact hx v q
        · rw [List.mem_singleton.mp q]
          exact ⟨c, hc, rfl⟩
    · rintro H2 ⟨b2, w2, xs, hDs, hl, hx⟩
      refine ⟨by show 1 ≤ sizeLine; decide, fun l hl2 => ?_⟩
      have s3 : Same H2 (upd H2 l (.lst [.str "/"])) := same_upd hl2
      have w3 : Well (upd H2 l (.lst [.str "/"])) p := let ⟨a, b, c, e⟩ := w2; ⟨a, b, c, s3 _ _ e⟩
      have nlp : l ≠ p := npD w2 hl2
      refine ⟨_, rfl, p, 2, rfl, w3, by decide, by decide, fun m H4 m0 m1 w4 b4 => ?_⟩
      refine ⟨l, m, _, rfl, rfl, b4 _ _ upd_same nlp, by omega, by omega, ?_, fun r hr2 => ?_⟩
      · show 1 * m.toNat ≤ sizeLine
        have : 2 ≤ sizeLine := by decide
        omega
      · have hD4 : H4 D = some (.lst xs) := b4 _ _ (s3 _ _ hDs) (npD w1 hD)
        have s5 : Same H4 (upd H4 r (.lst ((List.replicate m.toNat [V.str "/"]).flatten))) := same_upd hr2
        have lm : m.toNat ≤ 1 := by omega
        have lrep : ((List.replicate m.toNat [V.str "/"]).flatten).length = m.toNat := by simp
        have ln2 : (2 + n).toNat ≤ 3 := by omega
        have ln3 : 0 < (2 + n).toNat := by omega
        have hl' : xs.length = (2 + n).toNat := hl
        refine ⟨D, r, xs, _, rfl, rfl, s5 _ _ hD4, upd_same, ?_, fun q hq => ?_⟩
        · have : 100 ≤ sizeLine := by decide
          rw [lrep]
          omega
        · refine k q _ _ ?_ ?_ ?_ upd_same ?_ ?_ ?_
          · cases e : H q with
            | none => rfl
            | some o =>
              by_cases z : q = p
              · obtain ⟨a, b, c, ew⟩ := w4
                rw [z, s5 _ _ ew] at hq
                cases hq
              · rw [s5 _ _ (b4 _ _ (s3 _ _ (b2 _ _ (b1 _ _ e z) z)) z)] at hq
                cases hq
          · intro x o e n
            exact same_upd hq _ _ (s5 _ _ (b4 _ _ (s3 _ _ (b2 _ _ (b1 _ _ e n) n)) n))
          · obtain ⟨a, b, c, e⟩ := w4
            exact ⟨a, b, c, same_upd hq _ _ (s5 _ _ e)⟩
          · rw [List.length_append]
            omega
          · rw [List.length_append, lrep]
            omega
          · intro v hv
            rcases List.mem_append.mp hv with q1 | q1
            · exact hx v q1
            · obtain ⟨l', hl', e'⟩ := List.mem_flatten.mp q1
              rw [List.eq_of_mem_replicate hl'] at e'
              rw [List.mem_singleton.mp e', lit_slash]
              exact ⟨47, slash_in, rfl⟩

end
end KP

set_option Elab.async false
set_option maxRecDepth 100000
set_option maxHeartbeats 4000000
set_option linter.all false
/-! Ours: the law's odd values. -/
namespace KP
open PySem PySem.Spec PyProof.Rows L2 Gr GxR
def odd0 : List PyData := [.none, .bool true, .bool false, .int (-1), .int 0, .int 1, .int 2, .int 13, .int (10 ^ 31), .str "", .str "x", .str "/", .str "/a", .str "a/", .str "abc", .str "*", .str "$", .str "/$a", .str "A", .str " "]
def odd1 : List PyData := [.tuple [], .tuple [.int 1], .tuple [.int 1, .int 2], .tuple [.int 0, .int 1], .tuple [.str "bar"], .tuple [.str "bar", .str "/"], .list [], .list [.int 1], .list [.str "/"], .dict [], .dict [(.str "x", .int 1)], .tuple [.none], .tuple [.str "/", .str "/a"]]
def odd2 : List PyData := [.tuple [.tuple [.int 1, .int 2]], .tuple [.tuple [.int 2, .int 1], .int 3], .tuple [.tuple [.str "bar", .str "/"]], .tuple [.tuple [.str "bar", .str "/"], .none], .tuple [.tuple [], .tuple []], .tuple [.tuple [], .tuple [.int 1]], .tuple [.tuple [], .tuple [.int 0]]]
def odd3 : List PyData := [.tuple [.bool true, .int 1], .tuple [.int 1, .bool true], .tuple [.tuple [.bool true, .int 2]], .tuple [.tuple [], .tuple [.bool true]], .list [.tuple [.str "let", .str "/"]], .list [.tuple [.int 1, .int 2]], .tuple [.tuple [.str "a"], .tuple [], .tuple [], .tuple [.int 1]]]
def oddAll : List PyData := odd0 ++ odd1 ++ odd2 ++ odd3
theorem odd_ok : oddAll.all (capD 12) = true := by decide +kernel
theorem lit_neg1 : Lit (tUn (rU fun i => V.int (-i)) (tC (.int 1))) (.int (-1)) := fun _ _ _ _ _ k => ⟨_, rfl, k _ _ (.refl _) (.int _)⟩
theorem lit_pow : Lit (tOp (rI CPow fun i j => V.int (i ^ j.toNat)) (tC (.int 10)) (tC (.int 31))) (.int (10 ^ 31)) := fun _ _ _ _ _ k => ⟨_, _, rfl, rfl, ⟨by decide, by decide, by decide⟩, k _ _ (.refl _) (.int _)⟩
/-- a list that grows at l, a well at p -/
structure OI (H0 H : Hp) (p l : Addr) (ls : List Addr) (vs : List V) (ds : List PyData) : Prop where
  at' : H l = some (.lst vs)
  w : Well H p
  b : But H0 H p
  o : OdAll (hide H (l :: p :: ls)) vs ds
  n : l ≠ p
  f : H0 l = none
  m : ∀ x ∈ ls, H0 x ≠ none
theorem OI.lsn {H0 H : Hp} {p l : Addr} {ls : List Addr} {vs : List V} {ds : List PyData} (h : OI H0 H p l ls vs ds) : ∀ x ∈ l :: p :: ls, H x ≠ none := fun x hx q => by
  have ep : H p ≠ none := fun z => by
    obtain ⟨_, _, _, ew⟩ := h.w
    rw [ew] at z; cases z
  rcases List.mem_cons.mp hx with e | e
  · rw [e, h.at'] at q; cases q
  · rcases List.mem_cons.mp e with e | e
    · exact ep (e ▸ q)
    · cases e0 : H0 x with
      | none => exact h.m x e e0
      | some o =>
        by_cases z : x = p
        · exact ep (z ▸ q)
        · rw [h.b x o e0 z] at q; cases q
theorem OI.same {H0 H H' : Hp} {p l : Addr} {ls : List Addr} {vs : List V} {ds : List PyData} (h : OI H0 H p l ls vs ds) (s : Same H H') : OI H0 H' p l ls vs ds :=
  ⟨s _ _ h.at', (let ⟨a, b, c, e⟩ := h.w; ⟨a, b, c, s _ _ e⟩), fun x o e n => s _ _ (h.b x o e n), h.o.same (same_hide _ s), h.n, h.f, h.m⟩
theorem OI.ext {H0 H : Hp} {p l : Addr} {ls : List Addr} {vs ws : List V} {ds es : List PyData} (h : OI H0 H p l ls vs ds) (o : OdAll (hide H (l :: p :: ls)) ws es) : OI H0 (upd H l (.lst (vs ++ ws))) p l ls (vs ++ ws) (ds ++ es) := by
  have e : hide (upd H l (.lst (vs ++ ws))) (l :: p :: ls) = hide H (l :: p :: ls) := by
    funext a
    unfold hide
    by_cases q : a ∈ l :: p :: ls
    · rw [if_pos q, if_pos q]
    · rw [if_neg q, if_neg q, upd_ne]
      exact fun z => q (z ▸ List.mem_cons_self)
  refine ⟨upd_same, (let ⟨a, b, c, ew⟩ := h.w; ⟨a, b, c, (upd_ne (Ne.symm h.n)).trans ew⟩), fun x o q n => ?_, ?_, h.n, h.f, h.m⟩
  · rw [upd_ne (fun z => by rw [z, h.f] at q; cases q)]
    exact h.b x o q n
  · rw [e]
    exact h.o.app o
theorem seq_lst {ta : TA} {ds : List PyData} {i : Nat} {rest : TS} {E : Ends} {σ : L2.St} {H : Hp} {ls : List Addr} (L : Lits ta ds) (hw : ∀ l ∈ ls, H l ≠ none) (hn : ds.length ≤ 1000)
    (k : ∀ vs H1 l, vs.length = ds.length → Same H H1 → OdAll (hide H1 ls) vs ds → H1 l = none → rest E (σ.set i (some (.ref l))) (upd H1 l (.lst vs))) : tSeq (tAsg (tLst ta) (gName i)) rest E σ H := by
  have mz : 5000 ≤ sizeLine := by decide
  exact L ls σ H _ hw fun vs H1 s1 o => ⟨by have := o.len; omega, fun l hl => k vs H1 l o.len s1 o hl⟩
theorem seq_ext {K : PySem.W.Frag} {ta : TA} {ds es : List PyData} {rest : TS} {E : Ends} {σ : L2.St} {H0 H : Hp} {p l : Addr} {ls : List Addr} {vs : List V} (L : Lits ta es) (hσ : σ[1]? = some (some (.ref l))) (h : OI H0 H p l ls vs ds) (n : vs.length + es.length ≤ 1000)
    (k : ∀ ws H1, ws.length = es.length → OI H0 H1 p l ls (vs ++ ws) (ds ++ es) → rest E σ H1) : tSeq (tDrop (tBM K "list" rExtend (tVar 1) (tCons (tLst ta) tNil))) rest E σ H := by
  have mz : 5000 ≤ sizeLine := by decide
  refine ⟨_, hσ, .inl ⟨rfl, _, SqL.of h.at'⟩, ?_⟩
  refine L (l :: p :: ls) _ _ _ h.lsn fun ws Ha s o => ⟨by have := o.len; omega, fun b hb => ?_⟩
  have j := (h.same s).same (same_upd (o := HO.lst ws) hb)
  refine ⟨l, b, _, _, rfl, rfl, j.at', upd_same, by have := o.len; omega, ?_⟩
  exact k ws _ o.len (j.ext (o.same (same_hide _ (same_upd hb))))
def spOdd : Sp := fun vs H Q _ => ∃ (p : Addr) (ls : List Addr), vs = [.ref p] ∧ Well H p ∧ (∀ x ∈ ls, H x ≠ none) ∧ ∀ v d H', But H H' p → Well H' p → Od (hide H' (p :: ls)) v d → capD 12 d = true → Q v H'
theorem OdAll.at {H : Hp} : ∀ {vs : List V} {ds : List PyData}, OdAll H vs ds → ∀ {i : Nat} {v : V}, vs[i]? = some v → ∃ d, d ∈ ds ∧ Od H v d
  | _, _, .nil, i, v, h => by cases h
  | _, _, .cons a b, 0, v, h => ⟨_, List.mem_cons_self, by cases h; exact a⟩
  | _, _, .cons a b, i + 1, v, h => by
    obtain ⟨d, hd, o⟩ := OdAll.at b h
    exact ⟨d, List.mem_cons_of_mem _ hd, o⟩
section
variable {P : Program} {w : World} {K : PySem.W.Frag} {mg : Str → Option Value} {base : Heap}
theorem sc_odd : FnScope ["_law_well_here", "_law_some"] ["_law_well_here"] (defScope s_l_odd) := ⟨rfl, rfl, rfl, by decide +kernel, rfl, by decide +kernel, by decide +kernel⟩
theorem ok_odd (T : D K mg) : FnOk P w K mg base CX0 3 T.f_l_odd T.d_l_odd ["_law_well_here"] spOdd := by
  refine T.U_l_odd.ok sc_odd (fun vs H Q E h => ?_) (fun cdv A outer s H vs Q E hr h => ?_)
  · obtain ⟨p, ls, rfl, _⟩ := h
    rfl
  · obtain ⟨p, ls, rfl, hp, hls, k⟩ := h
    have nd := sc_odd.nd
    have mz : 5000 ≤ sizeLine := by decide
    refine ⟨_, pss_cons (ps_set (i := 1) nd rfl (.inl rfl) (pe_lst (pa_cons pe_non (pa_cons pe_bl (pa_cons pe_bl (pa_cons (pe_un un_neg pe_int) (pa_cons pe_int (pa_cons pe_int (pa_cons pe_int (pa_cons pe_int (pa_cons (pe_op op_pow pe_int pe_int) (pa_cons pe_str (pa_cons pe_str (pa_cons pe_str (pa_cons pe_str (pa_cons pe_str (pa_cons pe_str (pa_cons pe_str (pa_cons pe_str (pa_cons pe_str (pa_cons pe_str (pa_cons pe_str pa_nil))))))))))))))))))))))
      (pss_cons (ps_expr (pe_bm PySem.F.plainAttrs_list PySem.F.slot_list_extend PySem.F.type_list_extend mt_extend (pv 1) (pa_cons (pe_lst (pa_cons (pe_tup pa_nil) (pa_cons (pe_tup (pa_cons pe_int pa_nil)) (pa_cons (pe_tup (pa_cons pe_int (pa_cons pe_int pa_nil))) (pa_cons (pe_tup (pa_cons pe_int (pa_cons pe_int pa_nil))) (pa_cons (pe_tup (pa_cons pe_str pa_nil)) (pa_cons (pe_tup (pa_cons pe_str (pa_cons pe_str pa_nil))) (pa_cons (pe_lst pa_nil) (pa_cons (pe_lst (pa_cons pe_int pa_nil)) (pa_cons (pe_lst (pa_cons pe_str pa_nil)) (pa_cons pe_dnewK (pa_cons (pe_disp (pps_cons pe_str pe_int pps_nil) (by rfl) (by rfl) (by decide) (by decide)) (pa_cons (pe_tup (pa_cons pe_non pa_nil)) (pa_cons (pe_tup (pa_cons pe_str (pa_cons pe_str pa_nil))) pa_nil)))))))))))))) pa_nil)))
      (pss_cons (ps_expr (pe_bm PySem.F.plainAttrs_list PySem.F.slot_list_extend PySem.F.type_list_extend mt_extend (pv 1) (pa_cons (pe_lst (pa_cons (pe_tup (pa_cons (pe_tup (pa_cons pe_int (pa_cons pe_int pa_nil))) pa_nil)) (pa_cons (pe_tup (pa_cons (pe_tup (pa_cons pe_int (pa_cons pe_int pa_nil))) (pa_cons pe_int pa_nil))) (pa_cons (pe_tup (pa_cons (pe_tup (pa_cons pe_str (pa_cons pe_str pa_nil))) pa_nil)) (pa_cons (pe_tup (pa_cons (pe_tup (pa_cons pe_str (pa_cons pe_str pa_nil))) (pa_cons pe_non pa_nil))) (pa_cons (pe_tup (pa_cons (pe_tup pa_nil) (pa_cons (pe_tup pa_nil) pa_nil))) (pa_cons (pe_tup (pa_cons (pe_tup pa_nil) (pa_cons (pe_tup (pa_cons pe_int pa_nil)) pa_nil))) (pa_cons (pe_tup (pa_cons (pe_tup pa_nil) (pa_cons (pe_tup (pa_cons pe_int pa_nil)) pa_nil))) pa_nil)))))))) pa_nil)))
      (pss_cons (ps_expr (pe_bm PySem.F.plainAttrs_list PySem.F.slot_list_extend PySem.F.type_list_extend mt_extend (pv 1) (pa_cons (pe_lst (pa_cons (pe_tup (pa_cons pe_bl (pa_cons pe_int pa_nil))) (pa_cons (pe_tup (pa_cons pe_int (pa_cons pe_bl pa_nil))) (pa_cons (pe_tup (pa_cons (pe_tup (pa_cons pe_bl (pa_cons pe_int pa_nil))) pa_nil)) (pa_cons (pe_tup (pa_cons (pe_tup pa_nil) (pa_cons (pe_tup (pa_cons pe_bl pa_nil)) pa_nil))) (pa_cons (pe_lst (pa_cons (pe_tup (pa_cons pe_str (pa_cons pe_str pa_nil))) pa_nil)) (pa_cons (pe_lst (pa_cons (pe_tup (pa_cons pe_int (pa_cons pe_int pa_nil))) pa_nil)) (pa_cons (pe_tup (pa_cons (pe_tup (pa_cons pe_str pa_nil)) (pa_cons (pe_tup pa_nil) (pa_cons (pe_tup pa_nil) (pa_cons (pe_tup (pa_cons pe_int pa_nil)) pa_nil))))) pa_nil)))))))) pa_nil)))
      (pss_one (ps_ret (pe_call (ok_l_one T) hr rfl T.g_l_one T.U_l_one.kp T.b_l_one .nil pass0 (pa_cons (pv 0) (pa_cons (pv 1) pa_nil)))))))), ?_⟩
    have hw : ∀ x ∈ p :: ls, H x ≠ none := fun x hx q => by
      rcases List.mem_cons.mp hx with z | z
      · rw [z] at q
        obtain ⟨_, _, _, e⟩ := hp
        rw [e] at q
        cases q
      · exact hls x z q
    have L0 : Lits _ odd0 := (lits_cons lit_non (lits_cons (lit_bl _) (lits_cons (lit_bl _) (lits_cons lit_neg1 (lits_cons (lit_int _) (lits_cons (lit_int _) (lits_cons (lit_int _) (lits_cons (lit_int _) (lits_cons lit_pow (lits_cons (lit_str _) (lits_cons (lit_str _) (lits_cons (lit_str _) (lits_cons (lit_str _) (lits_cons (lit_str _) (lits_cons (lit_str _) (lits_cons (lit_str _) (lits_cons (lit_str _) (lits_cons (lit_str _) (lits_cons (lit_str _) (lits_cons (lit_str _) lits_nil))))))))))))))))))))
    have L1 : Lits _ odd1 := (lits_cons (lit_tup lits_nil (by decide)) (lits_cons (lit_tup (lits_cons (lit_int _) lits_nil) (by decide)) (lits_cons (lit_tup (lits_cons (lit_int _) (lits_cons (lit_int _) lits_nil)) (by decide)) (lits_cons (lit_tup (lits_cons (lit_int _) (lits_cons (lit_int _) lits_nil)) (by decide)) (lits_cons (lit_tup (lits_cons (lit_str _) lits_nil) (by decide)) (lits_cons (lit_tup (lits_cons (lit_str _) (lits_cons (lit_str _) lits_nil)) (by decide)) (lits_cons (lit_lst lits_nil (by decide)) (lits_cons (lit_lst (lits_cons (lit_int _) lits_nil) (by decide)) (lits_cons (lit_lst (lits_cons (lit_str _) lits_nil) (by decide)) (lits_cons lit_d0 (lits_cons lit_dx (lits_cons (lit_tup (lits_cons lit_non lits_nil) (by decide)) (lits_cons (lit_tup (lits_cons (lit_str _) (lits_cons (lit_str _) lits_nil)) (by decide)) lits_nil)))))))))))))
    have L2 : Lits _ odd2 := (lits_cons (lit_tup (lits_cons (lit_tup (lits_cons (lit_int _) (lits_cons (lit_int _) lits_nil)) (by decide)) lits_nil) (by decide)) (lits_cons (lit_tup (lits_cons (lit_tup (lits_cons (lit_int _) (lits_cons (lit_int _) lits_nil)) (by decide)) (lits_cons (lit_int _) lits_nil)) (by decide)) (lits_cons (lit_tup (lits_cons (lit_tup (lits_cons (lit_str _) (lits_cons (lit_str _) lits_nil)) (by decide)) lits_nil) (by decide)) (lits_cons (lit_tup (lits_cons (lit_tup (lits_cons (lit_str _) (lits_cons (lit_str _) lits_nil)) (by decide)) (lits_cons lit_non lits_nil)) (by decide)) (lits_cons (lit_tup (lits_cons (lit_tup lits_nil (by decide)) (lits_cons (lit_tup lits_nil (by decide)) lits_nil)) (by decide)) (lits_cons (lit_tup (lits_cons (lit_tup lits_nil (by decide)) (lits_cons (lit_tup (lits_cons (lit_int _) lits_nil) (by decide)) lits_nil)) (by decide)) (lits_cons (lit_tup (lits_cons (lit_tup lits_nil (by decide)) (lits_cons (lit_tup (lits_cons (lit_int _) lits_nil) (by decide)) lits_nil)) (by decide)) lits_nil)))))))
    have L3 : Lits _ odd3 := (lits_cons (lit_tup (lits_cons (lit_bl _) (lits_cons (lit_int _) lits_nil)) (by decide)) (lits_cons (lit_tup (lits_cons (lit_int _) (lits_cons (lit_bl _) lits_nil)) (by decide)) (lits_cons (lit_tup (lits_cons (lit_tup (lits_cons (lit_bl _) (lits_cons (lit_int _) lits_nil)) (by decide)) lits_nil) (by decide)) (lits_cons (lit_tup (lits_cons (lit_tup lits_nil (by decide)) (lits_cons (lit_tup (lits_cons (lit_bl _) lits_nil) (by decide)) lits_nil)) (by decide)) (lits_cons (lit_lst (lits_cons (lit_tup (lits_cons (lit_str _) (lits_cons (lit_str _) lits_nil)) (by decide)) lits_nil) (by decide)) (lits_cons (lit_lst (lits_cons (lit_tup (lits_cons (lit_int _) (lits_cons (lit_int _) lits_nil)) (by decide)) lits_nil) (by decide)) (lits_cons (lit_tup (lits_cons (lit_tup (lits_cons (lit_str _) lits_nil) (by decide)) (lits_cons (lit_tup lits_nil (by decide)) (lits_cons (lit_tup lits_nil (by decide)) (lits_cons (lit_tup (lits_cons (lit_int _) lits_nil) (by decide)) lits_nil)))) (by decide)) lits_nil)))))))
    refine seq_lst (ls := p :: ls) L0 hw (by decide) fun vs0 H1 l n0 s1 o0 hl => ?_
    have n0 : vs0.length = 20 := n0
    have nlp : l ≠ p := fun e => keep_ls hw s1 p List.mem_cons_self (e ▸ hl)
    have i1 : OI H (upd H1 l (.lst vs0)) p l ls vs0 odd0 := by
      refine ⟨upd_same, (let ⟨a, b, c, e⟩ := hp; ⟨a, b, c, same_upd hl _ _ (s1 _ _ e)⟩), fun x o e _ => same_upd hl _ _ (s1 _ _ e), ?_, nlp, ?_, hls⟩
      · refine o0.same fun a o e => ?_
        have e' := hide_same _ _ _ _ e
        have na : a ∉ p :: ls := fun q => by
          unfold hide at e
          rw [if_pos q] at e
          cases e
        refine hide_at (same_upd hl _ _ e') fun q => ?_
        rcases List.mem_cons.mp q with z | z
        · rw [z, hl] at e'; cases e'
        · exact na z
      · cases e : H l with
        | none => rfl
        | some o => rw [s1 _ _ e] at hl; cases hl

    refine seq_ext L1 rfl i1 (by show (vs0).length + 13 ≤ 1000; omega) fun vs1 Ha1 m1 i2 => ?_
    have m1 : vs1.length = 13 := m1
    refine seq_ext L2 rfl i2 (by show (vs0 ++ vs1).length + 7 ≤ 1000; simp only [List.length_append]; omega) fun vs2 Ha2 m2 i3 => ?_
    have m2 : vs2.length = 7 := m2
    refine seq_ext L3 rfl i3 (by show (vs0 ++ vs1 ++ vs2).length + 7 ≤ 1000; simp only [List.length_append]; omega) fun vs3 Ha3 m3 i4 => ?_
    have m3 : vs3.length = 7 := m3
    refine ⟨_, rfl, _, rfl, p, l, _, rfl, i4.w, i4.at', nlp, by simp only [List.length_append]; omega, by simp only [List.length_append]; omega, fun j v H9 hv w9 b9 => ?_⟩
    obtain ⟨d, hd, od⟩ := OdAll.at i4.o hv
    refine k v d H9 (i4.b.trans b9) w9 (od.same fun a o e => ?_) (List.all_eq_true.mp odd_ok d (by unfold oddAll; exact hd))
    have e' := hide_same _ _ _ _ e
    have na : a ∉ p :: ls := fun q => by
      unfold hide at e
      rw [if_pos (List.mem_cons_of_mem _ q)] at e
      cases e
    exact hide_at (b9 _ _ e' fun z => na (z ▸ List.mem_cons_self)) na
end
end KP

set_option Elab.async false
set_option maxRecDepth 100000
set_option maxHeartbeats 4000000
set_option linter.all false
/-! Ours: the law's own look at limits, hours, rules. -/
namespace KP
open PySem PySem.Spec PyProof.Rows L2 Gr GxR
theorem iteF' {c : Bool} {A B : Prop} (hc : c = false) (h : B) : if c = true then A else B := by
  subst hc
  exact if_neg Bool.false_ne_true ▸ h
theorem tup_or {H : Hp} {v : V} {d : PyData} (h : Od H v d) : (∃ a xs ds, v = .ref a ∧ d = .tuple ds ∧ H a = some (.tup xs) ∧ OdAll H xs ds) ∨ isTupD d = false := by
  cases h with
  | tup e o => exact .inl ⟨_, _, _, rfl, rfl, e, o⟩
  | _ => exact .inr rfl
theorem no_tup_row {d : PyData} {lo hi : Int} (h : isTupD d = false) : rowD d lo hi = false := by
  cases d <;> first | rfl | cases h
theorem no_tup_lim {d : PyData} (h : isTupD d = false) : limD d = false := by
  cases d <;> first | rfl | cases h
theorem len_lim {l : List PyData} (h : l.length ≠ 2) : limD (.tuple l) = false := by
  match l, h with
  | [], _ => rfl
  | [_], _ => rfl
  | [_, _], h => exact absurd rfl h
  | _ :: _ :: _ :: _, _ => rfl
theorem no_whole_betw {d : PyData} {lo hi : Int} (h : wholeD d = false) : betwD d lo hi = false := by
  cases d <;> first | rfl | cases h
theorem whole_int {H : Hp} {v : V} {d : PyData} (o : Od H v d) (h : wholeD d = true) : ∃ n, v = .int n ∧ d = .int n := by
  cases o with
  | int n => exact ⟨n, rfl, rfl⟩
  | _ => cases h
/-- one thing told of any value, nothing changed -/
def spL (f : PyData → Bool) : Sp := fun vs H Q _ => ∃ v d, vs = [v] ∧ Od H v d ∧ Q (.bl (f d)) H
theorem betw_int (n lo hi : Int) : betwD (.int n) lo hi = (decide (lo ≤ n) && decide (n ≤ hi)) := rfl
section
variable {P : Program} {w : World} {K : PySem.W.Frag} {mg : Str → Option Value} {base : Heap}
theorem sc_llims : FnScope ["_law_value", "_law_pair"] ["_law_value"] (defScope s_l_are_limits) := ⟨rfl, rfl, rfl, by decide +kernel, rfl, by decide +kernel, by decide +kernel⟩
theorem ok_llims (T : D K mg) : FnOk P w K mg base CX0 2 T.f_l_are_limits T.d_l_are_limits ["_law_value"] (spL limsD) := by
  refine T.U_l_are_limits.ok sc_llims (fun vs H Q E h => ?_) (fun cdv A outer s H vs Q E hr h => ?_)
  · obtain ⟨v, d, rfl, _⟩ := h
    rfl
  · obtain ⟨v, d, rfl, hd, k⟩ := h
    have nd := sc_llims.nd
    refine ⟨_, pss_cons (ps_if (PW.pt (pw_or (pt_not (pt_val (pe_callB call_isi (by rfl) T.isinstance (by decide +kernel) (pa_cons (pv 0) (pa_cons (pe_bltn (v := .ty "tuple") (by rfl) T.tuple (by decide +kernel) rfl) pa_nil))))) (pw_or1 (pt_cmpR op_gt (pe_callB call_len_seq (by rfl) T.len PySem.boot_len (pa_cons (pv 0) pa_nil)) pe_int (nomark _)))))
        (pss_one (ps_ret pe_bl))
        (pss_nil))
      (pss_cons (ps_for PassesOwn.never rfl (pi_tup (pv 0)) (pg_name (i := 1) nd rfl (.inl rfl))
        (pss_cons (ps_if (PW.pt (pw_or (pt_not (pt_val (pe_callB call_isi (by rfl) T.isinstance (by decide +kernel) (pa_cons (pv 1) (pa_cons (pe_bltn (v := .ty "tuple") (by rfl) T.tuple (by decide +kernel) rfl) pa_nil))))) (pw_or (pt_cmpR op_ne (pe_callB call_len_seq (by rfl) T.len PySem.boot_len (pa_cons (pv 1) pa_nil)) pe_int (nomark _)) (pw_or (pt_not (pt_val (pe_call (ok_lwhole T) hr rfl T.g_l_is_whole T.U_l_is_whole.kp T.b_l_is_whole .nil pass0 (pa_cons (pe_ix ix_tup (pv 1) pe_int (fun _ _ => rfl)) pa_nil)))) (pw_or1 (pt_not (pt_val (pe_call (ok_lwhole T) hr rfl T.g_l_is_whole T.U_l_is_whole.kp T.b_l_is_whole .nil pass0 (pa_cons (pe_ix ix_tup (pv 1) pe_int (fun _ _ => rfl)) pa_nil)))))))))
          (pss_one (ps_ret pe_bl))
          (pss_nil))
        (pss_one (ps_if (PW.pt (pw_or (pt_not (pt_chain op_le op_le pe_int (pe_ix ix_tup (pv 1) pe_int (fun _ _ => rfl)) pe_int)) (pw_or1 (pt_not (pt_chain op_le op_le pe_int (pe_ix ix_tup (pv 1) pe_int (fun _ _ => rfl)) pe_int)))))
          (pss_one (ps_ret pe_bl))
          (pss_nil)))))
      (pss_one (ps_ret pe_bl))), ?_⟩
    refine ⟨_, rfl, _, _, _, _, _, rfl, .ty _, hd.ty, kTup d, _, rfl, ?_⟩
    rcases tup_or hd with ⟨a, xs, ds, rfl, rfl, ea, oa⟩ | hn
    case inr =>
      have e : limsD d = false := by unfold limsD; rw [no_tup_row hn]; rfl
      rw [e] at k
      rw [hn]
      exact iteT (iteT k)
    have el := oa.len
    refine iteF ⟨_, rfl, a, xs, rfl, .inr (SqT.of ea), _, _, rfl, rfl, _, rfl, ite2 (fun h => ?_) (fun h => ?_)⟩
    · have h := of_decide_eq_true h
      have e : limsD (.tuple ds) = false := by
        unfold limsD
        have : rowD (.tuple ds) 0 4 = false := by
          show (decide ((0 : Int) ≤ (ds.length : Nat)) && decide (((ds.length : Nat) : Int) ≤ 4)) = false
          rw [decide_eq_false (p := ((ds.length : Nat) : Int) ≤ 4) (by omega), Bool.and_false]
        rw [this]
        rfl
      rw [e] at k
      exact k
    · have h4 : ¬ (4 : Int) < ((xs.length : Nat) : Int) := fun q => h (decide_eq_true q)
      have e : limsD (.tuple ds) = ds.all limD := by
        unfold limsD
        have : rowD (.tuple ds) 0 4 = true := by
          show (decide ((0 : Int) ≤ (ds.length : Nat)) && decide (((ds.length : Nat) : Int) ≤ 4)) = true
          rw [Bool.and_eq_true, decide_eq_true_eq, decide_eq_true_eq]
          omega
        rw [this]
        rfl
      rw [e] at k
      refine next_of ?_
      dsimp only
      have bad : ∀ (i : Nat) (hi : i < ds.length), limD ds[i] = false → Q (.bl false) H := fun i hi q => by
        have : ds.all limD = false := by
          rw [Bool.eq_false_iff]
          intro z
          rw [List.all_eq_true.mp z _ (List.getElem_mem hi)] at q
          cases q
        rw [this] at k
        exact k
      refine ⟨_, rfl, a, rfl, ⟨xs, SqT.of ea⟩, for_tup (K := K) (a := a) (xs := xs) (fun i σ H2 => H2 = H ∧ (∀ j (hj : j < ds.length), j < i → limD ds[j] = true) ∧ ∃ v1 : Option V, σ = [some (.ref a), v1]) ⟨rfl, fun _ _ h => absurd h (Nat.not_lt_zero _), none, rfl⟩ (fun i σ H2 _ q => by rw [q.1]; exact SqT.of ea) ?_ ?_⟩
      · rintro i x σ H2 hx ⟨rfl, ho, v1, rfl⟩
        have hi : i < ds.length := by rw [← el]; exact (List.getElem?_eq_some_iff.mp hx).1
        obtain ⟨x', hx', ox⟩ := OdAll.get oa (List.getElem?_eq_getElem hi)
        rw [hx] at hx'
        cases hx'
        have nb := bad i hi
        have good : limD ds[i] = true → (∀ j (hj : j < ds.length), j < i + 1 → limD ds[j] = true) := fun q j hj hji => by
          by_cases z : j = i
          · subst z; exact q
          · exact ho j hj (by omega)
        generalize ds[i] = di at *
        refine ⟨_, rfl, _, _, _, _, _, rfl, .ty _, ox.ty, kTup di, _, rfl, ?_⟩
        rcases tup_or ox with ⟨b, ys, es, rfl, rfl, eb, ob⟩ | hn
        case inr =>
          rw [hn]
          exact iteT (iteT (nb (no_tup_lim hn)))
        have ely := ob.len
        refine iteF ⟨_, rfl, b, ys, rfl, .inr (SqT.of eb), rfl, _, rfl, ?_⟩
        by_cases h2 : ys.length = 2
        case neg =>
          refine iteT' ?_ (iteT (nb (len_lim (by omega))))
          have : ¬ V.int ((ys.length : Nat) : Int) = V.int 2 := fun q => h2 (by have := V.int.inj q; omega)
          rw [decide_eq_false this]
          rfl
        match ys, es, ob, h2 with
        | [y0, y1], [e0, e1], .cons o0 (.cons o1 .nil), _ =>
          refine iteF' (by show (!decide (V.int 2 = V.int 2)) = false; rw [decide_eq_true rfl]; rfl) ?_
          have el2 : limD (.tuple [e0, e1]) = (betwD e0 1 6 && betwD e1 1 12) := rfl
          refine ⟨_, rfl, b, [y0, y1], 0, y0, rfl, rfl, SqT.of eb, rfl, y0, e0, rfl, o0, _, rfl, ?_⟩
          cases w0 : wholeD e0 with
          | false => exact iteT (iteT (nb (by rw [el2, no_whole_betw w0]; rfl)))
          | true =>
            refine iteF ⟨_, rfl, b, [y0, y1], 1, y1, rfl, rfl, SqT.of eb, rfl, y1, e1, rfl, o1, _, rfl, ?_⟩
            cases w1 : wholeD e1 with
            | false => exact iteT (nb (by rw [el2, no_whole_betw w1, Bool.and_false]))
            | true =>
              obtain ⟨n0, rfl, rfl⟩ := whole_int o0 w0
              obtain ⟨n1, rfl, rfl⟩ := whole_int o1 w1
              rw [betw_int, betw_int] at el2
              refine iteF (next_of ?_)
              dsimp only
              refine ⟨_, rfl, b, _, 0, _, rfl, rfl, SqT.of eb, rfl, _, _, rfl, rfl, _, rfl, ?_⟩
              cases d1 : decide (1 ≤ n0) with
              | false => exact iteF ⟨_, rfl, iteT (iteT (nb (by rw [el2, d1]; rfl)))⟩
              | true =>
                refine iteT ⟨_, _, rfl, rfl, _, rfl, ?_⟩
                cases d2 : decide (n0 ≤ 6) with
                | false => exact iteT (iteT (nb (by rw [el2, d1, d2]; rfl)))
                | true =>
                  refine iteF ⟨_, rfl, b, _, 1, _, rfl, rfl, SqT.of eb, rfl, _, _, rfl, rfl, _, rfl, ?_⟩
                  cases d3 : decide (1 ≤ n1) with
                  | false => exact iteF ⟨_, rfl, iteT (nb (by rw [el2, d3]; simp))⟩
                  | true =>
                    refine iteT ⟨_, _, rfl, rfl, _, rfl, ?_⟩
                    cases d4 : decide (n1 ≤ 12) with
                    | false => exact iteT (nb (by rw [el2, d4]; simp))
                    | true => exact iteF ⟨rfl, good (by rw [el2, d1, d2, d3, d4]; rfl), _, rfl⟩
      · rintro σ H2 ⟨rfl, ho, v1, rfl⟩
        have : ds.all limD = true := List.all_eq_true.mpr fun d hd => by
          obtain ⟨j, hj, rfl⟩ := List.getElem_of_mem hd
          exact ho j hj (by omega)
        rw [this] at k
        exact k
theorem sc_lhours : FnScope ["_law_value", "_law_digit"] ["_law_value"] (defScope s_l_are_hours) := ⟨rfl, rfl, rfl, by decide +kernel, rfl, by decide +kernel, by decide +kernel⟩
theorem ok_lhours (T : D K mg) : FnOk P w K mg base CX0 2 T.f_l_are_hours T.d_l_are_hours ["_law_value"] (spL hoursD) := by
  refine T.U_l_are_hours.ok sc_lhours (fun vs H Q E h => ?_) (fun cdv A outer s H vs Q E hr h => ?_)
  · obtain ⟨v, d, rfl, _⟩ := h
    rfl
  · obtain ⟨v, d, rfl, hd, k⟩ := h
    have nd := sc_lhours.nd
    refine ⟨_, pss_cons (ps_if (PW.pt (pw_or (pt_not (pt_val (pe_callB call_isi (by rfl) T.isinstance (by decide +kernel) (pa_cons (pv 0) (pa_cons (pe_bltn (v := .ty "tuple") (by rfl) T.tuple (by decide +kernel) rfl) pa_nil))))) (pw_or1 (pt_not (pt_chain op_le op_le pe_int (pe_callB call_len_seq (by rfl) T.len PySem.boot_len (pa_cons (pv 0) pa_nil)) pe_int)))))
        (pss_one (ps_ret pe_bl))
        (pss_nil))
      (pss_cons (ps_for PassesOwn.never rfl (pi_tup (pv 0)) (pg_name (i := 1) nd rfl (.inl rfl))
        (pss_one (ps_if (PW.pt (pw_or (pt_not (pt_val (pe_call (ok_lwhole T) hr rfl T.g_l_is_whole T.U_l_is_whole.kp T.b_l_is_whole .nil pass0 (pa_cons (pv 1) pa_nil)))) (pw_or1 (pt_not (pt_chain op_le op_le pe_int (pv 1) pe_int)))))
          (pss_one (ps_ret pe_bl))
          (pss_nil))))
      (pss_one (ps_ret (pe_cmpR op_in_seq pe_int (pv 0) rfl)))), ?_⟩
    refine ⟨_, rfl, _, _, _, _, _, rfl, .ty _, hd.ty, kTup d, _, rfl, ?_⟩
    rcases tup_or hd with ⟨a, xs, ds, rfl, rfl, ea, oa⟩ | hn
    case inr =>
      have e : hoursD d = false := by unfold hoursD; rw [no_tup_row hn]; rfl
      rw [e] at k
      rw [hn]
      exact iteT (iteT k)
    have el := oa.len
    have er : rowD (.tuple ds) 1 12 = (decide ((1 : Int) ≤ ((xs.length : Nat) : Int)) && decide (((xs.length : Nat) : Int) ≤ 12)) := by rw [el]; rfl
    have eh : hoursD (.tuple ds) = (rowD (.tuple ds) 1 12 && (ds.all (fun x => betwD x 0 1) && hasOne 1 ds)) := rfl
    rw [eh, er] at k
    refine iteF ⟨_, rfl, a, xs, rfl, .inr (SqT.of ea), _, _, rfl, rfl, _, rfl, ?_⟩
    cases d1 : decide ((1 : Int) ≤ ((xs.length : Nat) : Int)) with
    | false =>
      rw [d1] at k
      exact iteF ⟨_, rfl, iteT k⟩
    | true =>
      refine iteT ⟨_, _, rfl, rfl, _, rfl, ?_⟩
      cases d2 : decide (((xs.length : Nat) : Int) ≤ 12) with
      | false =>
        rw [d1, d2] at k
        exact iteT k
      | true =>
        rw [d1, d2] at k
        have k : Q (.bl (ds.all (fun x => betwD x 0 1) && hasOne 1 ds)) H := k
        refine iteF (next_of ?_)
        dsimp only
        have bad : ∀ (i : Nat) (hi : i < ds.length), betwD ds[i] 0 1 = false → Q (.bl false) H := fun i hi q => by
          have : ds.all (fun x => betwD x 0 1) = false := by
            rw [Bool.eq_false_iff]
            intro z
            have := List.all_eq_true.mp z _ (List.getElem_mem hi)
            rw [q] at this
            cases this
          rw [this] at k
          exact k
        refine ⟨_, rfl, a, rfl, ⟨xs, SqT.of ea⟩, for_tup (K := K) (a := a) (xs := xs) (fun i σ H2 => H2 = H ∧ (∀ j (hj : j < ds.length), j < i → betwD ds[j] 0 1 = true) ∧ ∃ v1 : Option V, σ = [some (.ref a), v1]) ⟨rfl, fun _ _ h => absurd h (Nat.not_lt_zero _), none, rfl⟩ (fun i σ H2 _ q => by rw [q.1]; exact SqT.of ea) ?_ ?_⟩
        · rintro i x σ H2 hx ⟨rfl, ho, v1, rfl⟩
          have hi : i < ds.length := by rw [← el]; exact (List.getElem?_eq_some_iff.mp hx).1
          obtain ⟨x', hx', ox⟩ := OdAll.get oa (List.getElem?_eq_getElem hi)
          rw [hx] at hx'
          cases hx'
          have nb := bad i hi
          have good : betwD ds[i] 0 1 = true → (∀ j (hj : j < ds.length), j < i + 1 → betwD ds[j] 0 1 = true) := fun q j hj hji => by
            by_cases z : j = i
            · subst z; exact q
            · exact ho j hj (by omega)
          generalize ds[i] = di at *
          refine ⟨_, rfl, x, di, rfl, ox, _, rfl, ?_⟩
          cases w0 : wholeD di with
          | false => exact iteT (iteT (nb (no_whole_betw w0)))
          | true =>
            obtain ⟨n0, rfl, rfl⟩ := whole_int ox w0
            refine iteF ⟨_, rfl, _, _, rfl, rfl, _, rfl, ?_⟩
            cases d3 : decide (0 ≤ n0) with
            | false => exact iteF ⟨_, rfl, iteT (nb (by rw [betw_int, d3]; rfl))⟩
            | true =>
              refine iteT ⟨_, _, rfl, rfl, _, rfl, ?_⟩
              cases d4 : decide (n0 ≤ 1) with
              | false => exact iteT (nb (by rw [betw_int, d4]; simp))
              | true => exact iteF ⟨rfl, good (by rw [betw_int, d3, d4]; rfl), _, rfl⟩
        · rintro σ H2 ⟨rfl, ho, v1, rfl⟩
          have ha : ds.all (fun x => betwD x 0 1) = true := List.all_eq_true.mpr fun d hd => by
            obtain ⟨j, hj, rfl⟩ := List.getElem_of_mem hd
            exact ho j hj (by omega)
          rw [ha, Bool.true_and] at k
          obtain ⟨ns, rfl, rfl⟩ := OdAll.ints oa fun d hd => betw_whole (List.all_eq_true.mp ha d hd)
          rw [← ints_in] at k
          exact ⟨_, rfl, a, _, rfl, .inr (SqT.of ea), rfl, ints_flat ns, k⟩
theorem sc_lrules : FnScope ["_law_value"] ["_law_value"] (defScope s_l_are_rules) := ⟨rfl, rfl, rfl, by decide +kernel, rfl, by decide +kernel, by decide +kernel⟩
theorem len_rules {l : List PyData} (h : l.length ≠ 2) : rulesD (.tuple l) = false := by
  match l, h with
  | [], _ => rfl
  | [_], _ => rfl
  | [_, _], h => exact absurd rfl h
  | _ :: _ :: _ :: _, _ => rfl
theorem ok_lrules (T : D K mg) : FnOk P w K mg base CX0 3 T.f_l_are_rules T.d_l_are_rules ["_law_value"] (spL rulesD) := by
  refine T.U_l_are_rules.ok sc_lrules (fun vs H Q E h => ?_) (fun cdv A outer s H vs Q E hr h => ?_)
  · obtain ⟨v, d, rfl, _⟩ := h
    rfl
  · obtain ⟨v, d, rfl, hd, k⟩ := h
    refine ⟨_, pss_cons (ps_if (PW.pt (pw_or (pt_not (pt_val (pe_callB call_isi (by rfl) T.isinstance (by decide +kernel) (pa_cons (pv 0) (pa_cons (pe_bltn (v := .ty "tuple") (by rfl) T.tuple (by decide +kernel) rfl) pa_nil))))) (pw_or1 (pt_cmpR op_ne (pe_callB call_len_seq (by rfl) T.len PySem.boot_len (pa_cons (pv 0) pa_nil)) pe_int (nomark _)))))
        (pss_one (ps_ret pe_bl))
        (pss_nil))
      (pss_one (ps_ret (pe_and (pe_call (ok_llims T) hr rfl T.g_l_are_limits T.U_l_are_limits.kp T.b_l_are_limits .nil pass0 (pa_cons (pe_ix ix_tup (pv 0) pe_int (fun _ _ => rfl)) pa_nil)) (pe_one (pe_call (ok_lhours T) hr rfl T.g_l_are_hours T.U_l_are_hours.kp T.b_l_are_hours .nil pass0 (pa_cons (pe_ix ix_tup (pv 0) pe_int (fun _ _ => rfl)) pa_nil)))))), ?_⟩
    refine ⟨_, rfl, _, _, _, _, _, rfl, .ty _, hd.ty, kTup d, _, rfl, ?_⟩
    rcases tup_or hd with ⟨a, xs, ds, rfl, rfl, ea, oa⟩ | hn
    case inr =>
      have e : rulesD d = false := rules_row d (no_tup_row hn)
      rw [e] at k
      rw [hn]
      exact iteT (iteT k)
    have el := oa.len
    refine iteF ⟨_, rfl, a, xs, rfl, .inr (SqT.of ea), rfl, _, rfl, ?_⟩
    by_cases h2 : xs.length = 2
    case neg =>
      refine iteT' ?_ ?_
      · have : ¬ V.int ((xs.length : Nat) : Int) = V.int 2 := fun q => h2 (by have := V.int.inj q; omega)
        rw [decide_eq_false this]
        rfl
      · rw [len_rules (by omega)] at k
        exact k
    match xs, ds, oa, h2 with
    | [y0, y1], [e0, e1], .cons o0 (.cons o1 .nil), _ =>
      have k : Q (.bl (limsD e0 && hoursD e1)) H := k
      refine iteF' (by show (!decide (V.int 2 = V.int 2)) = false; rw [decide_eq_true rfl]; rfl) (next_of ?_)
      dsimp only
      refine ⟨_, rfl, a, [y0, y1], 0, y0, rfl, rfl, SqT.of ea, rfl, y0, e0, rfl, o0, _, rfl, ?_⟩
      cases hx : limsD e0 with
      | false =>
        rw [hx] at k
        exact iteF k
      | true =>
        rw [hx, Bool.true_and] at k
        exact iteT ⟨_, rfl, a, [y0, y1], 1, y1, rfl, rfl, SqT.of ea, rfl, y1, e1, rfl, o1, k⟩
end
end KP

set_option Elab.async false
set_option maxRecDepth 100000
set_option maxHeartbeats 4000000
set_option linter.all false
/-! Ours: the law's own look at path rows. -/
namespace KP
open PySem PySem.Spec PyProof.Rows L2 Gr GxR
theorem cap_good {d : PyData} (h : capD 1000 d = true) : GoodD d := by
  cases d with
  | str z =>
    unfold capD at h
    rw [Bool.and_eq_true, decide_eq_true_eq] at h
    exact ⟨h.1, fun c hc => Nat.lt_trans (of_decide_eq_true (List.all_eq_true.mp h.2 c hc)) (by decide)⟩
  | _ => trivial
theorem len_rowp {l : List PyData} (h : l.length ≠ 2) : rowpD (.tuple l) = false := by
  match l, h with
  | [], _ => rfl
  | [_], _ => rfl
  | [_, _], h => exact absurd rfl h
  | _ :: _ :: _ :: _, _ => rfl
theorem no_tup_rowp {d : PyData} (h : isTupD d = false) : rowpD d = false := by
  cases d <;> first | rfl | cases h
theorem no_word {d : PyData} (h : isStrD d = false) : wordD d = false := by
  cases d <;> first | rfl | cases h
theorem pat_str {H : Hp} {v : V} {d : PyData} (o : Od H v d) (h : patD d = true) : ∃ z, v = .str z ∧ d = .str z := by
  rcases str_or o with q | q
  · exact q
  · rw [no_pat q] at h; cases h
def spRW : Sp := fun vs H Q _ => ∃ v d, vs = [v] ∧ Od H v d ∧ okC d ∧ ∀ p x H', Same H H' → H' p = some (.tup [x, .bl (!pathsD d)]) → Q (.ref p) H'
section
variable {P : Program} {w : World} {K : PySem.W.Frag} {mg : Str → Option Value} {base : Heap}
theorem sc_lrw : FnScope ["_law_value", "_law_stars", "_law_at", "_law_row"] ["_law_value"] (defScope s_l_rows_wrong) := ⟨rfl, rfl, rfl, by decide +kernel, rfl, by decide +kernel, by decide +kernel⟩
theorem ok_lrw (T : D K mg) : FnOk P w K mg base CX0 3 T.f_l_rows_wrong T.d_l_rows_wrong ["_law_value"] spRW := by
  refine T.U_l_rows_wrong.ok sc_lrw (fun vs H Q E h => ?_) (fun cdv A outer s H vs Q E hr h => ?_)
  · obtain ⟨v, d, rfl, _⟩ := h
    rfl
  · obtain ⟨v, d, rfl, hd, hc, k⟩ := h
    have nd := sc_lrw.nd
    have mz : 5000 ≤ sizeLine := by decide
    refine ⟨_, pss_cons (ps_if (PW.pt (pw_or (pt_not (pt_val (pe_callB call_isi (by rfl) T.isinstance (by decide +kernel) (pa_cons (pv 0) (pa_cons (pe_bltn (v := .ty "tuple") (by rfl) T.tuple (by decide +kernel) rfl) pa_nil))))) (pw_or1 (pt_cmpR op_gt (pe_callB call_len_seq (by rfl) T.len PySem.boot_len (pa_cons (pv 0) pa_nil)) pe_int (nomark _)))))
        (pss_one (ps_ret (pe_tup (pa_cons pe_non (pa_cons pe_bl pa_nil)))))
        (pss_nil))
      (pss_cons (ps_set (i := 1) nd rfl (.inl rfl) pe_int)
      (pss_cons (ps_for PassesOwn.never rfl (pi_enumT (by rfl) T.enumerate (pa_cons (pv 0) pa_nil)) (pg_tup rfl (pgs_cons (pg_name (i := 2) nd rfl (.inl rfl)) (pgs_cons (pg_name (i := 3) nd rfl (.inl rfl)) pgs_nil)))
        (pss_cons (ps_if (PW.pt (pw_or (pt_not (pt_val (pe_callB call_isi (by rfl) T.isinstance (by decide +kernel) (pa_cons (pv 3) (pa_cons (pe_bltn (v := .ty "tuple") (by rfl) T.tuple (by decide +kernel) rfl) pa_nil))))) (pw_or (pt_cmpR op_ne (pe_callB call_len_seq (by rfl) T.len PySem.boot_len (pa_cons (pv 3) pa_nil)) pe_int (nomark _)) (pw_or (pt_not (pt_val (pe_callB call_isi (by rfl) T.isinstance (by decide +kernel) (pa_cons (pe_ix ix_tup (pv 3) pe_int (fun _ _ => rfl)) (pa_cons (pe_bltn (v := .ty "str") (by rfl) T.str (by decide +kernel) rfl) pa_nil))))) (pw_or1 (pt_cmpR op_notIn_seq (pe_ix ix_tup (pv 3) pe_int (fun _ _ => rfl)) (pe_lst (pa_cons pe_str (pa_cons pe_str pa_nil))) rfl))))))
          (pss_one (ps_ret (pe_tup (pa_cons (pv 2) (pa_cons pe_bl pa_nil)))))
          (pss_nil))
        (pss_cons (ps_if (PW.pt (pw_or (pt_not (pt_val (pe_call (ok_lpat T) hr rfl T.g_l_is_pattern T.U_l_is_pattern.kp T.b_l_is_pattern .nil pass0 (pa_cons (pe_ix ix_tup (pv 3) pe_int (fun _ _ => rfl)) pa_nil)))) (pw_or1 (pt_cmpR op_gt (pe_op op_add (pv 1) (pe_m1 PySem.F.slot_str_count PySem.F.type_str_count mt_count (pe_ix ix_tup (pv 3) pe_int (fun _ _ => rfl)) pe_str)) pe_int (nomark _)))))
          (pss_one (ps_ret (pe_tup (pa_cons (pv 2) (pa_cons pe_bl pa_nil)))))
          (pss_nil))
        (pss_one (ps_set (i := 1) nd rfl (.inl rfl) (pe_op op_add (pv 1) (pe_m1 PySem.F.slot_str_count PySem.F.type_str_count mt_count (pe_ix ix_tup (pv 3) pe_int (fun _ _ => rfl)) pe_str))))))) 
      (pss_one (ps_ret (pe_tup (pa_cons pe_non (pa_cons pe_bl pa_nil))))))), ?_⟩
    refine ⟨_, rfl, _, _, _, _, _, rfl, .ty _, hd.ty, kTup d, _, rfl, ?_⟩
    rcases tup_or hd with ⟨a, xs, ds, rfl, rfl, ea, oa⟩ | hn
    case inr =>
      have e : pathsD d = false := by unfold pathsD; rw [no_tup_row hn]; rfl
      rw [e] at k
      rw [hn]
      exact iteT (iteT ⟨by show 2 ≤ sizeLine; omega, fun p hp => k p _ _ (same_upd hp) upd_same⟩)
    have el := oa.len
    obtain ⟨_, hcc⟩ := cap_tup hc
    refine iteF ⟨_, rfl, a, xs, rfl, .inr (SqT.of ea), _, _, rfl, rfl, _, rfl, ite2 (fun h => ?_) (fun h => ?_)⟩
    · have h := of_decide_eq_true h
      have e : pathsD (.tuple ds) = false := by
        unfold pathsD
        have : rowD (.tuple ds) 0 6 = false := by
          show (decide ((0 : Int) ≤ (ds.length : Nat)) && decide (((ds.length : Nat) : Int) ≤ 6)) = false
          rw [decide_eq_false (p := ((ds.length : Nat) : Int) ≤ 6) (by omega), Bool.and_false]
        rw [this]
        rfl
      rw [e] at k
      exact ⟨by show 2 ≤ sizeLine; omega, fun p hp => k p _ _ (same_upd hp) upd_same⟩
    · have h4 : ¬ (6 : Int) < ((xs.length : Nat) : Int) := fun q => h (decide_eq_true q)
      have e : pathsD (.tuple ds) = walkP 0 ds := by
        unfold pathsD
        have : rowD (.tuple ds) 0 6 = true := by
          show (decide ((0 : Int) ≤ (ds.length : Nat)) && decide (((ds.length : Nat) : Int) ≤ 6)) = true
          rw [Bool.and_eq_true, decide_eq_true_eq, decide_eq_true_eq]
          omega
        rw [this]
        rfl
      refine next_of ?_
      dsimp only
      refine ⟨_, rfl, a, xs, rfl, SqT.of ea, for_it (walk_tp (K := K) (a := a) (xs := xs)) (fun i σ H2 => Same H H2 ∧ ∃ (st : Int) (v2 v3 : Option V), σ = [some (.ref a), some (.int st), v2, v3] ∧ walkP 0 ds = walkP st (ds.drop i)) ⟨.refl _, 0, none, none, rfl, rfl⟩ (fun i σ H2 _ q => SqT.of (q.1 _ _ ea)) ?_ ?_⟩
      · rintro i x σ H2 H3 hi ⟨s2, st, v2, v3, rfl, ew⟩ ⟨Tt, y, rfl, hTn, rfl, hy⟩
        have hi2 : i < ds.length := by rw [← oa.len]; exact hi
        obtain ⟨y', hy', oy⟩ := OdAll.get oa (List.getElem?_eq_getElem hi2)
        rw [hy] at hy'
        cases hy'
        have s3 := s2.trans (same_upd (o := HO.tup [V.int (i : Nat), y]) hTn)
        have oy3 := oy.same s3
        have hci := hcc _ (List.getElem_mem hi2)
        have ed : ds.drop i = ds[i] :: ds.drop (i + 1) := List.drop_eq_getElem_cons hi2
        rw [ed] at ew
        have bad : walkP 0 ds = false → ∀ H4, Same (upd H2 Tt (.tup [V.int (i : Nat), y])) H4 → ∀ p, H4 p = none → Q (.ref p) (upd H4 p (.tup [.int (i : Nat), .bl true])) := fun q H4 s4 p hp => by
          rw [e, q] at k
          exact k p _ _ (s3.trans (s4.trans (same_upd hp))) upd_same
        have e1 : walkP st (ds[i] :: ds.drop (i + 1)) = (rowpD ds[i] && (!decide (4 < st + starsOf ds[i]) && walkP (st + starsOf ds[i]) (ds.drop (i + 1)))) := rfl
        rw [e1] at ew
        refine ⟨_, _, rfl, SqT.of upd_same, rfl, _, _, rfl, _, _, rfl, rfl, ?_⟩
        dsimp only
        generalize upd H2 Tt (.tup [V.int (i : Nat), y]) = H3 at *
        generalize ds[i] = di at *
        have no : rowpD di = false → walkP 0 ds = false := fun q => by rw [ew, q]; rfl
        refine ⟨_, rfl, _, _, _, _, _, rfl, .ty _, oy3.ty, kTup di, _, rfl, ?_⟩
        rcases tup_or oy3 with ⟨b, ys, es, rfl, rfl, eb, ob⟩ | hn
        case inr =>
          rw [hn]
          exact iteT (iteT ⟨_, rfl, by show 2 ≤ sizeLine; omega, fun p hp => bad (no (no_tup_rowp hn)) _ (.refl _) p hp⟩)
        have ely := ob.len
        refine iteF ⟨_, rfl, b, ys, rfl, .inr (SqT.of eb), rfl, _, rfl, ?_⟩
        by_cases h2 : ys.length = 2
        case neg =>
          refine iteT' ?_ (iteT ⟨_, rfl, by show 2 ≤ sizeLine; omega, fun p hp => bad (no (len_rowp (by omega))) _ (.refl _) p hp⟩)
          have : ¬ V.int ((ys.length : Nat) : Int) = V.int 2 := fun q => h2 (by have := V.int.inj q; omega)
          rw [decide_eq_false this]
          rfl
        match ys, es, ob, h2 with
        | [y0, y1], [d0, d1], .cons o0 (.cons o1 .nil), _ =>
          refine iteF' (by show (!decide (V.int 2 = V.int 2)) = false; rw [decide_eq_true rfl]; rfl) ?_
          have er : rowpD (.tuple [d0, d1]) = (wordD d0 && patD d1) := rfl
          obtain ⟨_, hc2⟩ := cap_tup hci
          refine ⟨_, rfl, b, [y0, y1], 0, y0, rfl, rfl, SqT.of eb, rfl, _, _, _, _, _, rfl, .ty _, o0.ty, kStr d0, _, rfl, ?_⟩
          rcases str_or o0 with ⟨z, rfl, rfl⟩ | hn
          case inr =>
            rw [hn]
            exact iteT (iteT ⟨_, rfl, by show 2 ≤ sizeLine; omega, fun p hp => bad (no (by rw [er, no_word hn]; rfl)) _ (.refl _) p hp⟩)
          refine iteF ⟨_, rfl, b, [.str z, y1], 0, .str z, rfl, rfl, SqT.of eb, rfl, by show 2 ≤ sizeLine; omega, fun q hq => ⟨q, _, rfl, .inl (SqL.of upd_same), rfl, rfl, _, rfl, ?_⟩⟩
          have s4 := same_upd (o := HO.lst [V.str "bar", V.str "let"]) hq
          rw [if_pos rfl, word_in]
          have ewd : wordD (.str z) = (z == "bar" || z == "let") := rfl
          rw [← ewd]
          cases hw : wordD (.str z) with
          | false => exact iteT ⟨_, rfl, by show 2 ≤ sizeLine; omega, fun p hp => bad (no (by rw [er, hw]; rfl)) _ s4 p hp⟩
          | true =>
            refine iteF (next_of ?_)
            dsimp only
            generalize upd H3 q (.lst [V.str "bar", V.str "let"]) = H4 at *
            refine ⟨_, rfl, b, [.str z, y1], 1, y1, rfl, rfl, SqT.of (s4 _ _ eb), rfl, y1, d1, rfl, o1.same s4, cap_good (hc2 _ (by simp)), fun H5 s5 => ⟨_, rfl, ?_⟩⟩
            cases hp1 : patD d1 with
            | false => exact iteT (iteT ⟨_, rfl, by show 2 ≤ sizeLine; omega, fun p hp => bad (no (by rw [er, hp1, Bool.and_false])) _ (s4.trans s5) p hp⟩)
            | true =>
              obtain ⟨z1, rfl, rfl⟩ := pat_str o1 hp1
              have es : starsOf (.tuple [.str z, .str z1]) = Txt.count z1 "*" := rfl
              rw [er, hw, hp1, es] at ew
              have ew : walkP 0 ds = (!decide (4 < st + Txt.count z1 "*") && walkP (st + Txt.count z1 "*") (ds.drop (i + 1))) := ew
              have eb5 := s5 _ _ (s4 _ _ eb)
              refine iteF ⟨_, rfl, _, rfl, b, [.str z, .str z1], 1, .str z1, rfl, rfl, SqT.of eb5, rfl, ⟨z1, rfl⟩, z1, "*", rfl, rfl, _, _, rfl, rfl, _, _, rfl, rfl, _, rfl, ite2 (fun hh => ?_) (fun hh => ?_)⟩
              · exact ⟨_, rfl, by show 2 ≤ sizeLine; omega, fun p hp => bad (by rw [ew, hh]; rfl) _ (s4.trans s5) p hp⟩
              · rw [Bool.eq_false_iff.mpr hh, Bool.not_false, Bool.true_and] at ew
                refine next_of ?_
                dsimp only
                exact ⟨_, rfl, _, rfl, b, [.str z, .str z1], 1, .str z1, rfl, rfl, SqT.of eb5, rfl, ⟨z1, rfl⟩, z1, "*", rfl, rfl, _, _, rfl, rfl, s3.trans (s4.trans s5), _, _, _, rfl, ew⟩
      · rintro σ H2 ⟨s2, st, v2, v3, rfl, ew⟩
        rw [el, List.drop_length] at ew
        have : walkP st [] = true := rfl
        rw [e, ew, this] at k
        exact ⟨by show 2 ≤ sizeLine; omega, fun p hp => k p _ _ (s2.trans (same_upd hp)) upd_same⟩
end
end KP

set_option Elab.async false
set_option maxRecDepth 100000
set_option maxHeartbeats 4000000
set_option linter.all false
/-! Ours: drawn limits and hours. -/
namespace KP
open PySem PySem.Spec PyProof.Rows L2 Gr GxR
/-- a value drawn from the well at p -/
def Drawn (H : Hp) (p : Addr) (R : PyData → Prop) (Q : VK) : Prop := ∀ v d H', But H H' p → Well H' p → Od (hide H' [p]) v d → R d → Q v H'
theorem well_ne {H : Hp} {p q : Addr} (w : Well H p) (h : H q = none) : q ≠ p := fun z => by
  obtain ⟨_, _, _, e⟩ := w
  rw [z, e] at h
  cases h
theorem Well.same {H H1 : Hp} {p : Addr} (w : Well H p) (s : Same H H1) : Well H1 p := let ⟨a, b, c, e⟩ := w; ⟨a, b, c, s _ _ e⟩
theorem Well.put {H : Hp} {p q : Addr} {o : HO} (w : Well H p) (n : q ≠ p) : Well (upd H q o) p := let ⟨a, b, c, e⟩ := w; ⟨a, b, c, (upd_ne (Ne.symm n)).trans e⟩
theorem But.same' {H H1 : Hp} {p : Addr} (s : Same H H1) : But H H1 p := fun b o e _ => s b o e
theorem But.put {H H1 : Hp} {p D : Addr} {o : HO} (b : But H H1 p) (n : H D = none) : But H (upd H1 D o) p := fun x o' e nx => by
  rw [upd_ne (ne_of_none e n)]
  exact b x o' e nx
theorem hide_put {H H1 : Hp} {p D : Addr} {o : HO} (b : But H H1 p) : Same (hide H [p, D]) (hide (upd H1 D o) [p, D]) := fun a x e => by
  unfold hide at e ⊢
  split at e
  · cases e
  · rename_i z
    rw [if_neg z, upd_ne (fun q => z (by rw [q]; simp))]
    exact b a x e fun q => z (by rw [q]; simp)
theorem hide_one {H : Hp} {p D : Addr} : Same (hide H [p, D]) (hide H [p]) := fun a x e => by
  unfold hide at e ⊢
  split at e
  · cases e
  · rename_i z
    rw [if_neg fun q => z (by rw [List.mem_singleton.mp q]; simp)]
    exact e
theorem hide_but {H H1 : Hp} {p : Addr} (b : But H H1 p) : Same (hide H [p]) (hide H1 [p]) := fun a x e => by
  unfold hide at e ⊢
  split at e
  · cases e
  · rename_i z
    rw [if_neg z]
    exact b a x e fun q => z (by rw [q]; simp)
theorem hide_at2 {H : Hp} {p D a : Addr} {o : HO} (e : H a = some o) (h1 : a ≠ p) (h2 : a ≠ D) : hide H [p, D] a = some o := hide_at e (by simp [h1, h2])
theorem hide_at1 {H : Hp} {p a : Addr} {o : HO} (e : H a = some o) (h1 : a ≠ p) : hide H [p] a = some o := hide_at e (by simp [h1])
def limR : PyData → Prop := fun d => ∃ ps, d = .tuple (ps.map prD) ∧ Lim ps
def spSomeLim : Sp := fun vs H Q _ => ∃ (p : Addr) (tp wd : Int), vs = [.ref p, .int tp, .int wd] ∧ Well H p ∧ 0 < tp ∧ tp ≤ 6 ∧ 0 < wd ∧ wd ≤ 12 ∧ Drawn H p limR Q
section
variable {P : Program} {w : World} {K : PySem.W.Frag} {mg : Str → Option Value} {base : Heap}
theorem sc_slim : FnScope ["_law_well_here", "_law_top", "_law_width", "_law_number", "_law_turn"] ["_law_well_here", "_law_top", "_law_width"] (defScope s_l_some_limits) := ⟨rfl, rfl, rfl, by decide +kernel, rfl, by decide +kernel, by decide +kernel⟩
theorem ok_slim (T : D K mg) : FnOk P w K mg base CX0 3 T.f_l_some_limits T.d_l_some_limits ["_law_well_here", "_law_top", "_law_width"] spSomeLim := by
  refine T.U_l_some_limits.ok sc_slim (fun vs H Q E h => ?_) (fun cdv A outer s H vs Q E hr h => ?_)
  · obtain ⟨p, tp, wd, rfl, _⟩ := h
    rfl
  · obtain ⟨p, tp, wd, rfl, hp, t0, t1, w0, w1, k⟩ := h
    have nd := sc_slim.nd
    have mz : 5000 ≤ sizeLine := by decide
    refine ⟨_, pss_cons (ps_set (i := 3) nd rfl (.inl rfl) (pe_call (ok_l_one T) hr rfl T.g_l_one T.U_l_one.kp T.b_l_one .nil pass0 (pa_cons (pv 0) (pa_cons (pe_lst (pa_cons pe_int (pa_cons pe_int (pa_cons pe_int (pa_cons pe_int (pa_cons pe_int (pa_cons pe_int (pa_cons pe_int (pa_cons pe_int (pa_cons pe_int pa_nil)))))))))) pa_nil))))
      (pss_one (ps_ret (pe_callTy call_tuple_of (by rfl) T.tuple (by decide +kernel) (pa_cons (pe_lc (own := [("_law_turn", 4)]) (g := gName 4) (tt := tYes) rfl nd (pi_range1 rfl T.range (pa_cons (pv 3) pa_nil)) (blkOk_by (N := ["_law_well_here", "_law_top", "_law_width", "_law_number", "_law_turn"]) (sc := defScope s_l_some_limits) (by decide +kernel)) (fun _ _ _ _ _ => pg_name (i := 4) nd rfl (.inl rfl)) (fun _ _ _ _ _ => pts_nil) (fun _ _ _ _ _ => pe_tup (pa_cons (pe_op op_add pe_int (pe_call (ok_l_pick T) (hr.mono (by decide)) rfl T.g_l_pick T.U_l_pick.kp T.b_l_pick .nil pass0 (pa_cons (pv 0) (pa_cons (pv 1) pa_nil)))) (pa_cons (pe_op op_add pe_int (pe_call (ok_l_pick T) (hr.mono (by decide)) rfl T.g_l_pick T.U_l_pick.kp T.b_l_pick .nil pass0 (pa_cons (pv 0) (pa_cons (pv 2) pa_nil)))) pa_nil)))) pa_nil)))), ?_⟩
    refine ⟨_, rfl, by show 9 ≤ sizeLine; omega, fun q hq => ?_⟩
    have sq := same_upd (o := HO.lst [V.int 1, V.int 1, V.int 1, V.int 2, V.int 2, V.int 2, V.int 3, V.int 4, V.int 0]) hq
    refine ⟨p, q, _, rfl, hp.same sq, upd_same, well_ne hp hq, by decide, by decide, fun i v H1 hv w1' b1 => ?_⟩
    obtain ⟨n, rfl, n0, n4⟩ : ∃ n : Int, v = .int n ∧ 0 ≤ n ∧ n ≤ 4 := by
      have hm := List.mem_of_getElem? hv
      simp only [List.mem_cons, List.not_mem_nil, or_false] at hm
      rcases hm with rfl | rfl | rfl | rfl | rfl | rfl | rfl | rfl | rfl <;> exact ⟨_, rfl, by decide, by decide⟩
    have b01 : But H H1 p := (But.same' sq).trans b1
    refine gn ?_
    dsimp only
    refine ⟨_, rfl, n, rfl, by omega, by omega, fun D hD => lc_range (fun i Hx => But H1 Hx p ∧ Well Hx p ∧ ∃ (vs : List V) (ps : List (Int × Int)), Hx D = some (.lst vs) ∧ vs.length = i ∧ ps.length = i ∧ OdAll (hide Hx [p, D]) vs (ps.map prD) ∧ ∀ p ∈ ps, 1 ≤ p.1 ∧ p.1 ≤ 6 ∧ 1 ≤ p.2 ∧ p.2 ≤ 12)
      ⟨But.same' (same_upd hD), w1'.same (same_upd hD), [], [], upd_same, rfl, rfl, .nil, fun _ h => nomatch h⟩ ?_ ?_⟩
    · rintro i Hx hi ⟨bx, wx, vs, ps, ev, lv, lp, ov, hps⟩
      have nDp := well_ne w1' hD
      refine ⟨rfl, ?_⟩
      unfold tYes
      dsimp only
      rw [if_pos rfl]
      refine ⟨_, rfl, _, rfl, p, tp, rfl, wx, t0, by omega, fun r H3 r0 r1 w3 b3 => ⟨_, _, rfl, rfl, _, rfl, _, rfl, p, wd, rfl, w3, w0, by omega, fun r' H4 r0' r1' w4 b4 => ⟨_, _, rfl, rfl, by show 2 ≤ sizeLine; omega, fun t ht => ?_⟩⟩⟩
      have b34 := b3.trans b4
      have e4 : H4 D = some (.lst vs) := b34 _ _ ev nDp
      have st := same_upd (o := HO.tup [V.int (1 + r), V.int (1 + r')]) ht
      have ntp := well_ne w4 ht
      have ntD : t ≠ D := fun z => by rw [z, e4] at ht; cases ht
      refine ⟨_, st _ _ e4, by omega, (bx.trans (b34.trans (But.same' st))).put hD, (w4.same st).put nDp, _, ps ++ [(1 + r, 1 + r')], upd_same, by rw [List.length_append, lv]; rfl, by rw [List.length_append, lp]; rfl, ?_, fun x hx => ?_⟩
      · rw [List.map_append]
        refine (ov.same (hide_put (b34.trans (But.same' st)))).app (.cons (.tup (hide_at2 ((upd_ne ntD).trans upd_same) ntp ntD) (.cons (.int _) (.cons (.int _) .nil))) .nil)
      · rcases List.mem_append.mp hx with z | z
        · exact hps x z
        · rw [List.mem_singleton.mp z]
          show 1 ≤ 1 + r ∧ 1 + r ≤ 6 ∧ 1 ≤ 1 + r' ∧ 1 + r' ≤ 12
          omega
    · rintro Hx ⟨bx, wx, vs, ps, ev, lv, lp, ov, hps⟩
      refine ⟨D, vs, rfl, .inl ⟨SqL.of ev, fun R hR => ?_⟩⟩
      have sR := same_upd (o := HO.tup vs) hR
      exact k _ (.tuple (ps.map prD)) _ (b01.trans (bx.trans (But.same' sR))) (wx.same sR) (.tup (hide_at1 upd_same (well_ne wx hR)) ((ov.same hide_one).same (same_hide _ sR))) ⟨ps, rfl, by omega, hps⟩
end
end KP

set_option Elab.async false
set_option maxRecDepth 100000
set_option maxHeartbeats 4000000
set_option linter.all false
/-! Ours: drawn hours. -/
namespace KP
open PySem PySem.Spec PyProof.Rows L2 Gr GxR
def capR (n : Nat) : PyData → Prop := fun d => capD n d = true
theorem cap_ints {n : Nat} {ns : List Int} (h : ns.length ≤ n) : capD n (.tuple (ns.map PyData.int)) = true :=
  tup_cap (by rw [List.length_map]; exact h) fun d hd => by
    obtain ⟨i, _, rfl⟩ := List.mem_map.mp hd
    rfl
theorem ints_od {H : Hp} : ∀ ns : List Int, OdAll H (ns.map V.int) (ns.map PyData.int)
  | [] => .nil
  | n :: ns => .cons (.int n) (ints_od ns)
theorem ixN_in {n : Nat} {r : Int} (h0 : 0 ≤ r) (h1 : r < n) : ixN n r = some r.toNat := by
  unfold ixN
  rw [if_pos h0, if_pos h1]
def spSomeHrs : Sp := fun vs H Q _ => ∃ (p : Addr) (tp : Int), vs = [.ref p, .int tp] ∧ Well H p ∧ 0 < tp ∧ tp ≤ 12 ∧ Drawn H p (capR 12) Q
section
variable {P : Program} {w : World} {K : PySem.W.Frag} {mg : Str → Option Value} {base : Heap}
theorem sc_shrs : FnScope ["_law_well_here", "_law_top", "_law_row", "_law_turn"] ["_law_well_here", "_law_top"] (defScope s_l_some_hours) := ⟨rfl, rfl, rfl, by decide +kernel, rfl, by decide +kernel, by decide +kernel⟩
theorem ok_shrs (T : D K mg) : FnOk P w K mg base CX0 3 T.f_l_some_hours T.d_l_some_hours ["_law_well_here", "_law_top"] spSomeHrs := by
  refine T.U_l_some_hours.ok sc_shrs (fun vs H Q E h => ?_) (fun cdv A outer s H vs Q E hr h => ?_)
  · obtain ⟨p, tp, rfl, _⟩ := h
    rfl
  · obtain ⟨p, tp, rfl, hp, t0, t1, k⟩ := h
    have nd := sc_shrs.nd
    have mz : 5000 ≤ sizeLine := by decide
    refine ⟨_, pss_cons (ps_setLc (i := 2) (own := [("_law_turn", 3)]) (g := gName 3) (tt := tYes) rfl nd rfl rfl (sw_true rfl rfl rfl (by decide +kernel)) (pi_range1 rfl T.range (pa_cons (pe_op op_add pe_int (pe_call (ok_l_pick T) (hr.mono (by decide)) rfl T.g_l_pick T.U_l_pick.kp T.b_l_pick .nil pass0 (pa_cons (pv 0) (pa_cons (pv 1) pa_nil)))) pa_nil)) (blkOk_by (N := ["_law_well_here", "_law_top", "_law_row", "_law_turn"]) (sc := defScope s_l_some_hours) (by decide +kernel)) (fun _ _ _ _ _ => pg_name (i := 3) nd rfl (.inl rfl)) (fun _ _ _ _ _ => pts_nil) (fun _ _ _ _ _ => pe_call (ok_l_one T) hr rfl T.g_l_one T.U_l_one.kp T.b_l_one .nil pass0 (pa_cons (pv 0) (pa_cons (pe_lst (pa_cons pe_int (pa_cons pe_int (pa_cons pe_int pa_nil)))) pa_nil))))
      (pss_cons (ps_asg pe_int (pg_sub (pv 2) (pe_call (ok_l_pick T) (hr.mono (by decide)) rfl T.g_l_pick T.U_l_pick.kp T.b_l_pick .nil pass0 (pa_cons (pv 0) (pa_cons (pe_callB call_len_seq (by rfl) T.len PySem.boot_len (pa_cons (pv 2) pa_nil)) pa_nil))) set_list))
      (pss_one (ps_ret (pe_callTy call_tuple_of (by rfl) T.tuple (by decide +kernel) (pa_cons (pv 2) pa_nil))))), ?_⟩
    refine ⟨_, rfl, _, rfl, p, tp, rfl, hp, t0, by omega, fun n H1 n0 n1 w1 b1 => ⟨_, _, rfl, rfl, ?_⟩⟩
    refine ⟨_, rfl, by omega, by omega, fun D hD => lc_range (fun i Hx => But H1 Hx p ∧ Well Hx p ∧ ∃ ns : List Int, Hx D = some (.lst (ns.map V.int)) ∧ ns.length = i)
      ⟨But.same' (same_upd hD), w1.same (same_upd hD), [], upd_same, rfl⟩ ?_ ?_⟩
    · rintro i Hx hi ⟨bx, wx, ns, ev, lv⟩
      have nDp := well_ne w1 hD
      refine ⟨rfl, ?_⟩
      unfold tYes
      dsimp only
      rw [if_pos rfl]
      refine ⟨_, rfl, by show 3 ≤ sizeLine; omega, fun q hq => ?_⟩
      have sq := same_upd (o := HO.lst [V.int 1, V.int 1, V.int 0]) hq
      refine ⟨p, q, _, rfl, wx.same sq, upd_same, well_ne wx hq, by decide, by decide, fun j v H3 hv w3 b3 => ?_⟩
      obtain ⟨m, rfl⟩ : ∃ m : Int, v = .int m := by
        have hm := List.mem_of_getElem? hv
        simp only [List.mem_cons, List.not_mem_nil, or_false] at hm
        rcases hm with rfl | rfl | rfl <;> exact ⟨_, rfl⟩
      have bq := (But.same' sq).trans b3
      exact ⟨_, bq _ _ ev nDp, by rw [List.length_map]; omega, (bx.trans bq).put hD, w3.put nDp, ns ++ [m], by rw [upd_same, List.map_append]; rfl, by rw [List.length_append, lv]; rfl⟩
    · rintro Hx ⟨bx, wx, ns, ev, lv⟩
      have nDp := well_ne w1 hD
      refine gn ?_
      dsimp only
      refine ⟨_, rfl, _, rfl, _, rfl, D, _, rfl, .inl (SqL.of ev), p, _, rfl, wx, by rw [List.length_map]; omega, by rw [List.length_map]; omega, fun r H3 r0 r1 w3 b3 => ?_⟩
      rw [List.length_map] at r1
      have e3 := b3 _ _ ev nDp
      refine ⟨D, _, r, r.toNat, rfl, rfl, e3, ixN_in r0 (by rw [List.length_map]; omega), ?_⟩
      refine ⟨_, rfl, D, _, rfl, .inl ⟨SqL.of upd_same, fun R hR => ?_⟩⟩
      have e5 : (ns.map V.int).set r.toNat (.int 1) = (ns.set r.toNat 1).map V.int := by rw [List.map_set]
      rw [e5] at hR ⊢
      have wD : Well (upd H3 D (.lst ((ns.set r.toNat 1).map V.int))) p := w3.put nDp
      have sR := same_upd (o := HO.tup ((ns.set r.toNat 1).map V.int)) hR
      refine k _ (.tuple ((ns.set r.toNat 1).map PyData.int)) _ (b1.trans (((bx.trans b3).put hD).trans (But.same' sR))) (wD.same sR) (.tup (hide_at1 upd_same (well_ne wD hR)) (ints_od _)) (cap_ints (by rw [List.length_set]; omega))
end
end KP

set_option Elab.async false
set_option maxRecDepth 100000
set_option maxHeartbeats 4000000
set_option linter.all false
/-! Ours: drawn patterns and path rows. -/
namespace KP
open PySem PySem.Spec PyProof.Rows L2 Gr GxR PM
abbrev bl (z : Str) : List Nat := z.cps.toList
def Gd (l : List Nat) : Prop := l[0]? = some 47 ∧ ∀ c ∈ l, c = 42 ∨ c ∈ SG
theorem dollar_out : 36 ∉ SG := by decide +kernel
theorem star_out : 42 ∉ SG := by decide +kernel
theorem Gd.last {l : List Nat} (h : Gd l) : ¬ (l.getLast? == some 36) = true := fun e => by
  have hm : 36 ∈ l := List.mem_of_getLast? (by simpa using e)
  rcases h.2 36 hm with q | q
  · cases q
  · exact dollar_out q
theorem Gd.snoc {l : List Nat} {c : Nat} (h : Gd l) (hc : c = 42 ∨ c ∈ SG) : Gd (l ++ [c]) := by
  refine ⟨?_, fun d hd => ?_⟩
  · obtain ⟨lt, e⟩ := List.getElem?_eq_some_iff.mp h.1
    rw [List.getElem?_append_left lt]
    exact h.1
  · rcases List.mem_append.mp hd with q | q
    · exact h.2 d q
    · rw [List.mem_singleton.mp q]
      exact hc
theorem isPat_mk {z : Str} (h1 : 1 ≤ z.length) (h2 : z.length ≤ 12) (hg : Gd (innerOf z)) : isPat z = true := by
  unfold isPat
  rw [decide_eq_true h1, decide_eq_true h2, hg.1]
  have : ((innerOf z).all fun c => c == 42 || decide (c ∈ SG)) = true := List.all_eq_true.mpr fun c hc => by
    rcases hg.2 c hc with e | e
    · rw [e]; rfl
    · rw [decide_eq_true e, Bool.or_true]
  rw [this]
  rfl
theorem Gd.len {z : Str} (h : Gd (bl z)) : 1 ≤ z.length := by
  rw [tx_len]
  exact (List.getElem?_eq_some_iff.mp h.1).1
theorem isPat_good {z : Str} (h : Gd (bl z)) (l : z.length ≤ 12) : isPat z = true := by
  refine isPat_mk h.len l ?_
  unfold innerOf
  rw [if_neg h.last]
  exact h
theorem isPat_dollar {z : Str} (h : Gd (bl z)) (l : z.length ≤ 11) : isPat (z ++ ("$" : Str)) = true := by
  have e : bl (z ++ ("$" : Str)) = bl z ++ [36] := by rw [lit_dollar]; exact tx_app _ _
  have el : (z ++ ("$" : Str)).length = z.length + 1 := by
    rw [tx_len]
    show (bl (z ++ ("$" : Str))).length = _
    rw [e, List.length_append]
    rfl
  refine isPat_mk (by omega) (by omega) ?_
  have : innerOf (z ++ ("$" : Str)) = bl z := by
    unfold innerOf
    show (if (bl (z ++ ("$" : Str))).getLast? == some 36 then (bl (z ++ ("$" : Str))).dropLast else _) = _
    rw [e]
    simp
  rw [this]
  exact h
def spSomePat : Sp := fun vs H Q _ => ∃ (p q : Addr) (st tp : Int) (xs : List V), vs = [.ref p, .ref q, .int st, .int tp] ∧ Well H p ∧ H q = some (.lst xs) ∧ q ≠ p ∧ 0 < xs.length ∧ xs.length ≤ 1000 ∧ (∀ v ∈ xs, OneS v) ∧ 0 ≤ tp ∧ tp ≤ 10 ∧
  ∀ (z : Str) (H' : Hp), But H H' p → Well H' p → isPat z = true → Q (.str z) H'
section
variable {P : Program} {w : World} {K : PySem.W.Frag} {mg : Str → Option Value} {base : Heap}
theorem sc_somepat : FnScope ["_law_well_here", "_law_signs_here", "_law_stars", "_law_top", "_law_text", "_law_left", "_law_turn"] ["_law_well_here", "_law_signs_here", "_law_stars", "_law_top"] (defScope s_l_some_pattern) := ⟨rfl, rfl, rfl, by decide +kernel, rfl, by decide +kernel, by decide +kernel⟩
theorem ok_l_some_pattern (T : D K mg) : FnOk P w K mg base CX0 3 T.f_l_some_pattern T.d_l_some_pattern ["_law_well_here", "_law_signs_here", "_law_stars", "_law_top"] spSomePat := by
  refine T.U_l_some_pattern.ok sc_somepat (fun vs H Q E h => ?_) (fun cdv A outer s H vs Q E hr h => ?_)
  · obtain ⟨p, q, st, tp, xs, rfl, _⟩ := h
    rfl
  · obtain ⟨p, q, st, tp, xs, rfl, hp, hq, nq, hx0, hx1, hx, t0, t1, k⟩ := h
    have nd := sc_somepat.nd
    have hu := hu_of hr
    have mz : 1000 ≤ sizeLine := by decide
    refine ⟨_, pss_cons (ps_par (i := 4) (j := 5) (by rfl) nd rfl rfl (by decide) rfl rfl (pa_cons pe_str (pa_cons (pv 2) pa_nil)) (by rfl))
      (pss_cons (ps_for PassesOwn.never rfl (pi_range1 rfl T.range (pa_cons (pe_call (ok_l_pick T) (hr.mono (by decide)) rfl T.g_l_pick T.U_l_pick.kp T.b_l_pick .nil pass0 (pa_cons (pv 0) (pa_cons (pe_op op_add (pv 3) pe_int) pa_nil))) pa_nil)) (pg_name (i := 6) nd rfl (.inl rfl))
        (pss_one (ps_if (PW.pt (pw_and (pt_cmpR op_gt (pv 5) pe_int (nomark _)) (pw_and1 (pt_cmpR op_eq (pe_call (ok_l_pick T) (hr.mono (by decide)) rfl T.g_l_pick T.U_l_pick.kp T.b_l_pick .nil pass0 (pa_cons (pv 0) (pa_cons pe_int pa_nil))) pe_int (nomark _)))))
          (pss_one (ps_par (i := 4) (j := 5) (by rfl) nd rfl rfl (by decide) rfl rfl (pa_cons (pe_op op_add_str (pv 4) pe_str) (pa_cons (pe_op op_sub (pv 5) pe_int) pa_nil)) (by rfl)))
          (pss_one (ps_set (i := 4) nd rfl (.inl rfl) (pe_op op_add_str (pv 4) (pe_call (ok_l_one T) hr rfl T.g_l_one T.U_l_one.kp T.b_l_one .nil pass0 (pa_cons (pv 0) (pa_cons (pv 1) pa_nil)))))))))
      (pss_one (ps_ret (pe_ifExp (pt_cmpR op_eq (pe_call (ok_l_pick T) (hr.mono (by decide)) rfl T.g_l_pick T.U_l_pick.kp T.b_l_pick .nil pass0 (pa_cons (pv 0) (pa_cons pe_int pa_nil))) pe_int (nomark _)) (pe_op op_add_str (pv 4) pe_str) (pv 4))))), ?_⟩
    have g0 : Gd (bl ("/" : Str)) := by
      rw [lit_slash]
      exact ⟨rfl, fun c hc => .inr (by rw [List.mem_singleton.mp hc]; exact slash_in)⟩
    refine ⟨_, rfl, _, _, rfl, ?_⟩
    refine ⟨_, rfl, _, rfl, _, _, rfl, rfl, p, _, rfl, hp, by omega, by omega, fun n H1 n0 n1 w1 b1 => ?_⟩
    refine ⟨_, rfl, by omega, by omega, for_range (n := _) (fun i σ H2 => But H H2 p ∧ Well H2 p ∧ ∃ (t : Str) (le : Int) (v6 : Option V), σ = [some (.ref p), some (.ref q), some (.int st), some (.int tp), some (.str t), some (.int le), v6] ∧ Gd (bl t) ∧ t.length = i + 1)
      ⟨b1, w1, "/", st, none, rfl, g0, rfl⟩ ?_ ?_⟩
    · rintro i σ H2 hi ⟨b2, w2, t, le, v6, rfl, gt, lt⟩
      have hi10 : i < 10 := by omega
      have app : ∀ (u : Str) (c : Nat), u = ⟨#[c]⟩ → (c = 42 ∨ c ∈ SG) → Gd (bl (t ++ u)) ∧ (t ++ u).length = i + 1 + 1 := fun u c e hc => by
        subst e
        have e1 : bl (t ++ (⟨#[c]⟩ : Str)) = bl t ++ [c] := tx_app _ _
        refine ⟨by rw [e1]; exact gt.snoc hc, ?_⟩
        rw [tx_len]
        show (bl (t ++ (⟨#[c]⟩ : Str))).length = _
        rw [e1, List.length_append]
        show t.length + 1 = _
        omega
      refine ⟨_, rfl, _, _, rfl, rfl, _, rfl, ?_⟩
      refine ite2 (fun _ => ?_) (fun _ => ?_)
      · refine ⟨_, rfl, p, 3, rfl, w2, by decide, by decide, fun m H3 m0 m1 w3 b3 => ⟨rfl, _, rfl, ite2 (fun _ => ?_) (fun _ => ?_)⟩⟩
        · refine ⟨_, rfl, _, _, rfl, rfl, ?_, _, rfl, _, _, rfl, rfl, _, _, rfl, ?_⟩
          · show t.length + 1 ≤ sizeLine
            omega
          · obtain ⟨g2, l2⟩ := app "*" 42 lit_star (.inl rfl)
            exact ⟨b2.trans b3, w3, _, _, _, rfl, g2, l2⟩
        · refine ⟨_, rfl, _, rfl, _, rfl, p, q, xs, rfl, w3, (b2.trans b3) _ _ hq nq, nq, hx0, hx1, fun j v H4 hv w4 b4 => ?_⟩
          obtain ⟨c, hc, rfl⟩ := hx v (List.mem_of_getElem? hv)
          refine ⟨_, _, rfl, rfl, ?_, ?_⟩
          · show t.length + 1 ≤ sizeLine
            omega
          · obtain ⟨g2, l2⟩ := app _ c rfl (.inr hc)
            exact ⟨b2.trans (b3.trans b4), w4, _, _, _, rfl, g2, l2⟩
      · refine ⟨_, rfl, _, rfl, _, rfl, p, q, xs, rfl, w2, b2 _ _ hq nq, nq, hx0, hx1, fun j v H4 hv w4 b4 => ?_⟩
        obtain ⟨c, hc, rfl⟩ := hx v (List.mem_of_getElem? hv)
        refine ⟨_, _, rfl, rfl, ?_, ?_⟩
        · show t.length + 1 ≤ sizeLine
          omega
        · obtain ⟨g2, l2⟩ := app _ c rfl (.inr hc)
          exact ⟨b2.trans b4, w4, _, _, _, rfl, g2, l2⟩
    · rintro σ H2 ⟨b2, w2, t, le, v6, rfl, gt, lt⟩
      have ln : t.length ≤ 11 := by omega
      refine ⟨_, rfl, p, 3, rfl, w2, by decide, by decide, fun m H3 m0 m1 w3 b3 => ⟨rfl, _, rfl, ite2 (fun _ => ?_) (fun _ => ?_)⟩⟩
      · refine ⟨_, rfl, _, _, rfl, rfl, ?_, k _ H3 (b2.trans b3) w3 (isPat_dollar gt ln)⟩
        show t.length + 1 ≤ sizeLine
        omega
      · exact ⟨_, rfl, k _ H3 (b2.trans b3) w3 (isPat_good gt (by omega))⟩

theorem sg_small : ∀ c ∈ SG, c < 128 := by decide +kernel
theorem pat_cap {z : Str} (h : isPat z = true) : capD 12 (.str z) = true := by
  unfold isPat at h
  simp only [Bool.and_eq_true, decide_eq_true_eq] at h
  unfold capD
  rw [Bool.and_eq_true, decide_eq_true_eq]
  refine ⟨h.1.2, List.all_eq_true.mpr fun c hc => decide_eq_true ?_⟩
  have hin : ∀ d ∈ innerOf z, d < 128 := fun d hd => by
    have := List.all_eq_true.mp h.2.2 d hd
    rw [Bool.or_eq_true, beq_iff_eq, decide_eq_true_eq] at this
    rcases this with e | e
    · rw [e]; decide
    · exact sg_small d e
  unfold innerOf at hin
  split at hin
  · rename_i hl
    rw [beq_iff_eq] at hl
    by_cases q : c ∈ z.cps.toList.dropLast
    · exact hin c q
    · have hn : z.cps.toList ≠ [] := fun e => by rw [e] at hc; cases hc
      rw [← List.dropLast_concat_getLast hn] at hc
      rcases List.mem_append.mp hc with e | e
      · exact absurd e q
      · rw [List.getLast?_eq_some_getLast hn] at hl
        rw [List.mem_singleton.mp e, Option.some.inj hl]
        decide
  · exact hin c hc
def spSomeRows : Sp := fun vs H Q _ => ∃ (p sg : Addr) (xs : List V), vs = [.ref p, .ref sg, .int 6] ∧ Well H p ∧ H sg = some (.lst xs) ∧ sg ≠ p ∧ 0 < xs.length ∧ xs.length ≤ 1000 ∧ (∀ v ∈ xs, OneS v) ∧ Drawn H p (capR 12) Q
section
variable {P : Program} {w : World} {K : PySem.W.Frag} {mg : Str → Option Value} {base : Heap}
theorem sc_srows : FnScope ["_law_well_here", "_law_signs_here", "_law_top", "_law_listed", "_law_left", "_law_turn", "_law_shape"] ["_law_well_here", "_law_signs_here", "_law_top"] (defScope s_l_some_rows) := ⟨rfl, rfl, rfl, by decide +kernel, rfl, by decide +kernel, by decide +kernel⟩
theorem ok_srows (T : D K mg) : FnOk P w K mg base CX0 4 T.f_l_some_rows T.d_l_some_rows ["_law_well_here", "_law_signs_here", "_law_top"] spSomeRows := by
  refine T.U_l_some_rows.ok sc_srows (fun vs H Q E h => ?_) (fun cdv A outer s H vs Q E hr h => ?_)
  · obtain ⟨p, sg, xs, rfl, _⟩ := h
    rfl
  · obtain ⟨p, sg, xs, rfl, hp, hsg, nsg, hx0, hx1, hx, k⟩ := h
    have nd := sc_srows.nd
    have mz : 5000 ≤ sizeLine := by decide
    refine ⟨_, pss_cons (ps_par (i := 3) (j := 4) (by rfl) nd rfl rfl (by decide) rfl rfl (pa_cons (pe_lst pa_nil) (pa_cons pe_int pa_nil)) (by rfl))
      (pss_cons (ps_for PassesOwn.never rfl (pi_range1 rfl T.range (pa_cons (pe_call (ok_l_one T) (hr.mono (by decide)) rfl T.g_l_one T.U_l_one.kp T.b_l_one .nil pass0 (pa_cons (pv 0) (pa_cons (pe_op op_cat (pe_lst (pa_cons pe_int (pa_cons pe_int pa_nil))) (pe_op op_rep (pe_listRg rfl (by rfl) T.list (prg_2 (by rfl) T.range pe_int (pe_op op_add (pv 2) pe_int))) pe_int)) pa_nil))) pa_nil)) (pg_name (i := 5) nd rfl (.inl rfl))
        (pss_cons (ps_set (i := 6) nd rfl (.inl rfl) (pe_call (ok_l_some_pattern T) hr rfl T.g_l_some_pattern T.U_l_some_pattern.kp T.b_l_some_pattern .nil pass0 (pa_cons (pv 0) (pa_cons (pv 1) (pa_cons (pe_callB (call_min2 rfl) (by rfl) T.min boot_min (pa_cons (pv 4) (pa_cons pe_int pa_nil))) (pa_cons pe_int pa_nil))))))
        (pss_cons (ps_set (i := 4) nd rfl (.inl rfl) (pe_op op_sub (pv 4) (pe_m1 PySem.F.slot_str_count PySem.F.type_str_count mt_count (pv 6) pe_str)))
        (pss_one (ps_expr (pe_bm PySem.F.plainAttrs_list PySem.F.slot_list_append PySem.F.type_list_append mt_append (pv 3) (pa_cons (pe_tup (pa_cons (pe_call (ok_l_one T) (hr.mono (by decide)) rfl T.g_l_one T.U_l_one.kp T.b_l_one .nil pass0 (pa_cons (pv 0) (pa_cons (pe_lst (pa_cons pe_str (pa_cons pe_str pa_nil))) pa_nil))) (pa_cons (pv 6) pa_nil))) pa_nil)))))))
      (pss_one (ps_ret (pe_callTy call_tuple_of (by rfl) T.tuple (by decide +kernel) (pa_cons (pv 3) pa_nil))))), ?_⟩
    refine ⟨by show 0 ≤ sizeLine; omega, fun D hD => ⟨_, _, rfl, ?_⟩⟩
    have sD := same_upd (o := HO.lst []) hD
    have nDp := well_ne hp hD
    have eD : upd H D (.lst []) D = some (.lst []) := upd_same
    refine ⟨_, rfl, by show 2 ≤ sizeLine; omega, fun l1 h1 => ⟨_, rfl, _, _, rfl, rfl, 1, 6 + 1, rfl, rfl, RgOk.of_le (by decide) (by decide) (by decide) (by decide), fun l2 h2 => ⟨l2, 2, _, rfl, rfl, upd_same, by decide, by decide, by rw [rgV_length]; show 6 * 2 ≤ sizeLine; omega, fun l3 h3 => ?_⟩⟩⟩
    have s1 := same_upd (o := HO.lst [V.int 0, V.int 1]) h1
    have s2 := same_upd (o := HO.lst (rgV 1 (6 + 1))) h2
    have s3 := same_upd (o := HO.lst (List.replicate (2 : Int).toNat (rgV 1 (6 + 1))).flatten) h3
    have e1 := (s2.trans s3) _ _ (upd_same (H := upd H D (.lst [])) (a := l1) (o := HO.lst [V.int 0, V.int 1]))
    have small : ∀ v ∈ [V.int 0, V.int 1] ++ (List.replicate (2 : Int).toNat (rgV 1 (6 + 1))).flatten, ∃ n : Int, v = .int n ∧ 0 ≤ n ∧ n ≤ 6 := fun v hv => by
      rcases List.mem_append.mp hv with z | z
      · simp only [List.mem_cons, List.not_mem_nil, or_false] at z
        rcases z with rfl | rfl <;> exact ⟨_, rfl, by decide, by decide⟩
      · obtain ⟨l, hl, hv2⟩ := List.mem_flatten.mp z
        rw [(List.mem_replicate.mp hl).2] at hv2
        obtain ⟨i, hi, rfl⟩ := List.mem_map.mp hv2
        have hi := List.mem_range.mp hi
        have : ((6 + 1 : Int) - 1).toNat = 6 := by decide
        exact ⟨_, rfl, by omega, by omega⟩
    have ln : ([V.int 0, V.int 1] ++ (List.replicate (2 : Int).toNat (rgV 1 (6 + 1))).flatten).length = 14 := by
      rw [List.length_append, List.length_flatten, List.map_replicate, rgV_length]
      decide
    generalize hrep : (List.replicate (2 : Int).toNat (rgV 1 (6 + 1))).flatten = rp at *
    refine ⟨l1, l3, _, _, rfl, rfl, e1, upd_same, by rw [List.length_append] at ln; show 2 + rp.length ≤ sizeLine; omega, fun l4 h4 => ?_⟩
    have s4 := same_upd (o := HO.lst ([V.int 0, V.int 1] ++ rp)) h4
    have s14 := s1.trans (s2.trans (s3.trans s4))
    have w0 := (hp.same sD).same (s1.trans (s2.trans s3))
    refine ⟨p, l4, _, rfl, w0.same s4, upd_same, well_ne w0 h4, by omega, by omega, fun i v H5 hv w5 b5 => ?_⟩
    obtain ⟨n, rfl, n0, n6⟩ := small v (List.mem_of_getElem? hv)
    have b05 : But (upd H D (.lst [])) H5 p := (But.same' s14).trans b5
    have e5 := b05 _ _ eD nDp
    have c5 : But H H5 p := (But.same' sD).trans b05
    clear s1 s2 s3 s4 s14 e1 hv
    refine ⟨n, rfl, by omega, by omega, for_range (fun i σ Hx => But H Hx p ∧ Well Hx p ∧ ∃ (vs : List V) (ds : List PyData) (le : Int) (v5 v6 : Option V), σ = [some (.ref p), some (.ref sg), some (.int 6), some (.ref D), some (.int le), v5, v6] ∧ Hx D = some (.lst vs) ∧ vs.length = i ∧ OdAll (hide Hx [p, D]) vs ds ∧ ∀ d ∈ ds, capD 12 d = true)
      ⟨c5, w5, [], [], 4, none, none, rfl, e5, rfl, .nil, fun _ h => nomatch h⟩ ?_ ?_⟩
    · rintro i σ Hx hi ⟨bx, wx, vs, ds, le, v5, v6, rfl, ev, lv, ov, okv⟩
      have esg : Hx sg = some (.lst xs) := bx _ _ hsg nsg
      refine ⟨_, rfl, _, rfl, _, rfl, _, _, rfl, p, sg, _, 3, xs, rfl, wx, esg, nsg, hx0, hx1, hx, by decide, by decide, fun z H6 b6 w6 hz => ?_⟩
      refine gn ?_
      dsimp only
      refine ⟨_, rfl, _, rfl, ⟨z, rfl⟩, z, "*", rfl, rfl, _, _, rfl, rfl, ?_⟩
      refine gn ?_
      dsimp only
      have e6 := b6 _ _ ev nDp
      refine ⟨_, rfl, .inl ⟨rfl, _, SqL.of e6⟩, ?_⟩
      refine ⟨_, rfl, by show 2 ≤ sizeLine; omega, fun q hq => ?_⟩
      have sq := same_upd (o := HO.lst [V.str "bar", V.str "let"]) hq
      refine ⟨p, q, _, rfl, w6.same sq, upd_same, well_ne w6 hq, by decide, by decide, fun j y H7 hy w7 b7 => ?_⟩
      obtain ⟨wd, rfl, hwd⟩ : ∃ wd : Str, y = .str wd ∧ capD 12 (.str wd) = true := by
        have hm := List.mem_of_getElem? hy
        simp only [List.mem_cons, List.not_mem_nil, or_false] at hm
        rcases hm with rfl | rfl <;> exact ⟨_, rfl, by decide +kernel⟩
      refine ⟨_, rfl, by show 2 ≤ sizeLine; omega, fun t ht => ?_⟩
      have b67 := (But.same' sq).trans b7
      have e7 := b67 _ _ e6 nDp
      have st := same_upd (o := HO.tup [V.str wd, V.str z]) ht
      have ntp := well_ne w7 ht
      have ntD : t ≠ D := fun q => by rw [q, e7] at ht; cases ht
      have bxt := b6.trans (b67.trans (But.same' st))
      refine ⟨D, vs, .ref t, rfl, rfl, st _ _ e7, by omega, ?_⟩
      refine ⟨(bx.trans bxt).put hD, (w7.same st).put nDp, _, ds ++ [.tuple [.str wd, .str z]], _, _, _, rfl, upd_same, by rw [List.length_append, lv]; rfl, (ov.same (hide_put bxt)).app (.cons (.tup (hide_at2 ((upd_ne ntD).trans upd_same) ntp ntD) (.cons (.str _) (.cons (.str _) .nil))) .nil), fun d hd => ?_⟩
      · rcases List.mem_append.mp hd with q | q
        · exact okv d q
        · rw [List.mem_singleton.mp q]
          exact tup_cap (by show 2 ≤ 12; decide) fun e he => by
            simp only [List.mem_cons, List.not_mem_nil, or_false] at he
            rcases he with rfl | rfl
            · exact hwd
            · exact pat_cap hz
    · rintro σ Hx ⟨bx, wx, vs, ds, le, v5, v6, rfl, ev, lv, ov, okv⟩
      refine ⟨_, rfl, D, vs, rfl, .inl ⟨SqL.of ev, fun R hR => ?_⟩⟩
      have sR := same_upd (o := HO.tup vs) hR
      exact k _ (.tuple ds) _ (bx.trans (But.same' sR)) (wx.same sR) (.tup (hide_at1 upd_same (well_ne wx hR)) ((ov.same hide_one).same (same_hide _ sR))) (tup_cap (by have := ov.len; omega) okv)
end
end
end KP

set_option Elab.async false
set_option maxRecDepth 100000
set_option maxHeartbeats 4000000
set_option linter.all false
/-! Ours: the law's own look at counts. -/
namespace KP
open PySem PySem.Spec PyProof.Rows L2 Gr GxR
theorem foldl_mem : ∀ (l : List Int) (n : Int), l.foldl max n ∈ n :: l
  | [], n => List.mem_cons_self
  | x :: l, n => by
    rw [List.foldl_cons]
    rcases List.mem_cons.mp (foldl_mem l (max n x)) with e | e
    · rw [e]
      rcases Int.le_total n x with h | h
      · rw [Int.max_eq_right h]; exact List.mem_cons_of_mem _ List.mem_cons_self
      · rw [Int.max_eq_left h]; exact List.mem_cons_self
    · exact List.mem_cons_of_mem _ (List.mem_cons_of_mem _ e)
theorem foldl_ge : ∀ (l : List Int) (n : Int), ∀ y ∈ n :: l, y ≤ l.foldl max n
  | [], n, y, h => by rw [List.mem_singleton.mp h]; exact Int.le_refl _
  | x :: l, n, y, h => by
    rw [List.foldl_cons]
    have ih := foldl_ge l (max n x)
    rcases List.mem_cons.mp h with e | e
    · have := ih _ List.mem_cons_self
      omega
    · rcases List.mem_cons.mp e with e | e
      · have := ih _ List.mem_cons_self
        omega
      · exact ih y (List.mem_cons_of_mem _ e)
theorem max_is {ws : List Int} {m : Int} (h1 : ∀ x ∈ ws, 1 ≤ x) (hm : m ∈ ws ++ [1]) (hle : ∀ y ∈ ws ++ [1], y ≤ m) : m = maxI 1 ws := by
  cases ws with
  | nil => exact List.mem_singleton.mp hm
  | cons w l =>
    show m = l.foldl max w
    have a := hle _ (List.mem_append_left _ (foldl_mem l w))
    have b : m ≤ l.foldl max w := by
      rcases List.mem_append.mp hm with e | e
      · exact foldl_ge l w m e
      · have := foldl_ge l w w List.mem_cons_self
        have := h1 w List.mem_cons_self
        rw [List.mem_singleton.mp e]
        omega
    omega
def spLC : Sp := fun vs H Q _ => ∃ (lv v : V) (ps : List (Int × Int)) (d : PyData), vs = [lv, v] ∧ Od H lv (.tuple (ps.map prD)) ∧ Lim ps ∧ Od H v d ∧ ∀ H', Same H H' → Q (.bl (fitD ps d)) H'
theorem row_eq {ds : List PyData} {L : Int} : rowD (.tuple ds) L L = decide (((ds.length : Nat) : Int) = L) := by
  show (decide (L ≤ (ds.length : Nat)) && decide (((ds.length : Nat) : Int) ≤ L)) = _
  rw [Bool.eq_iff_iff, Bool.and_eq_true, decide_eq_true_eq, decide_eq_true_eq, decide_eq_true_eq]
  omega
theorem flat_false {ns : List Int} {L : Nat} {ps : List (Int × Int)} {p : Int × Int} {j : Nat} (hp : p ∈ ps) (hj : j < L) (h : win ns p j = false) : (ps.flatMap (wins ns L)).all id = false := by
  rw [Bool.eq_false_iff]
  intro z
  have := List.all_eq_true.mp z (win ns p j) (List.mem_flatMap.mpr ⟨p, hp, List.mem_map.mpr ⟨j, List.mem_range.mpr hj, rfl⟩⟩)
  rw [h] at this
  cases this
theorem slice_sumH {K : PySem.W.Frag} {t0 t1 t2 : TE} {σ : L2.St} {H : Hp} {Q : VK} {a : Addr} {ns : List Int} {i w : Nat} (h0 : ∀ (Q' : VK), Q' (.ref a) H → t0 σ H Q') (h1 : ∀ (Q' : VK), Q' (.int (i : Nat)) H → t1 σ H Q') (h2 : ∀ (Q' : VK), Q' (.int ((i + w : Nat) : Int)) H → t2 σ H Q')
    (e : H a = some (.tup (ns.map V.int))) (k : ∀ H', Same H H' → Q (.int ((ns.drop i).take w).sum) H') : tCB (rSumT K) (tCons (tSl (rSlA K) t0 (tPart t1) (tPart t2)) tNil) σ H Q := by
  refine h0 _ (h1 _ ⟨_, rfl, h2 _ ⟨_, rfl, a, _, rfl, SqT.of e, fun q => ?_, fun _ p hp => ?_⟩⟩)
  · have ec := cut_whole q
    rw [cut_win] at ec
    exact ⟨a, (ns.drop i).take w, rfl, by rw [ec]; exact SqT.of e, k H (.refl _)⟩
  · rw [cut_win]
    exact ⟨p, (ns.drop i).take w, rfl, SqT.of upd_same, k _ (same_upd hp)⟩
theorem ifop {r : R2} {t1 t2 : TE} {t u : TS} {D : Ends} {σ : L2.St} {H : Hp} (h : t1 σ H fun x H1 => t2 σ H1 fun y H2 => r x y H2 fun x H' => ∃ k, x = V.bl k ∧ if k = true then t D σ H' else u D σ H') : tIfS (tTest (tOp r t1 t2)) t u D σ H := h
theorem ix_tupB {X : Cx} {s : Shared} {H : Hp} {sc : Scope} {en : Env} {fp : List Addr} : IxR (X.blk s H sc en fp) (rIxT X.K) := ix_tup
section
variable {P : Program} {w : World} {K : PySem.W.Frag} {mg : Str → Option Value} {base : Heap}
theorem sc_lcnt : FnScope ["_law_pairs", "_law_value", "_law_pair", "_law_span", "_law_count", "_law_at"] ["_law_pairs", "_law_value"] (defScope s_l_are_counts) := ⟨rfl, rfl, rfl, by decide +kernel, rfl, by decide +kernel, by decide +kernel⟩
theorem ok_lcnt (T : D K mg) : FnOk P w K mg base CX0 2 T.f_l_are_counts T.d_l_are_counts ["_law_pairs", "_law_value"] spLC := by
  refine T.U_l_are_counts.ok sc_lcnt (fun vs H Q E h => ?_) (fun cdv A outer s H vs Q E hr h => ?_)
  · obtain ⟨lv, v, ps, d, rfl, _⟩ := h
    rfl
  · obtain ⟨lv, v, ps, d, rfl, hL, hl, hd, k⟩ := h
    have nd := sc_lcnt.nd
    have mz : 5000 ≤ sizeLine := by decide
    refine ⟨_, pss_cons (ps_set (i := 3) nd rfl (.inl rfl) (pe_op op_sub (pe_callB (cr_max rfl) (by rfl) T.max (by decide +kernel) (pa_cons (pe_op op_cat (pe_lc (own := [("_law_pair", 2)]) (g := gName 2) (tt := tYes) rfl nd (pi_tup (pv 0)) (blkOk_by (N := ["_law_pairs", "_law_value", "_law_pair", "_law_span", "_law_count", "_law_at"]) (sc := defScope s_l_are_counts) (by decide +kernel)) (fun _ _ _ _ _ => pg_name (i := 2) nd rfl (.inl rfl)) (fun _ _ _ _ _ => pts_nil) (fun _ _ _ _ _ => pe_ix ix_tupB (pv 2) pe_int (fun _ _ => rfl))) (pe_lst (pa_cons pe_int pa_nil))) pa_nil)) pe_int))
      (pss_cons (ps_if (PW.pt (pw_or (pt_not (pt_val (pe_callB call_isi (by rfl) T.isinstance (by decide +kernel) (pa_cons (pv 1) (pa_cons (pe_bltn (v := .ty "tuple") (by rfl) T.tuple (by decide +kernel) rfl) pa_nil))))) (pw_or1 (pt_cmpR op_ne (pe_callB call_len_seq (by rfl) T.len PySem.boot_len (pa_cons (pv 1) pa_nil)) (pv 3) (nomark _)))))
        (pss_one (ps_ret pe_bl))
        (pss_nil))
      (pss_cons (ps_for PassesOwn.never rfl (pi_tup (pv 1)) (pg_name (i := 4) nd rfl (.inl rfl))
        (pss_one (ps_if (PW.pt (pw_or (pt_not (pt_val (pe_call (ok_lwhole T) hr rfl T.g_l_is_whole T.U_l_is_whole.kp T.b_l_is_whole .nil pass0 (pa_cons (pv 4) pa_nil)))) (pw_or1 (pt_cmpR op_lt (pv 4) pe_int (nomark _)))))
          (pss_one (ps_ret pe_bl))
          (pss_nil))))
      (pss_cons (ps_for PassesOwn.never rfl (pi_tup (pv 0)) (pg_name (i := 2) nd rfl (.inl rfl))
        (pss_one (ps_for PassesOwn.never rfl (pi_range1 rfl T.range (pa_cons (pv 3) pa_nil)) (pg_name (i := 5) nd rfl (.inl rfl))
          (pss_one (ps_if (pt_cmpR op_gt (pe_callB (cr_sumT hr.hd) (by rfl) T.sum (by decide +kernel) (pa_cons (pe_slice sl_tupA (pv 1) (po_some (pv 5)) (po_some (pe_op op_add (pv 5) (pe_ix ix_tup (pv 2) pe_int (fun _ _ => rfl))))) pa_nil)) (pe_ix ix_tup (pv 2) pe_int (fun _ _ => rfl)) (nomark _))
            (pss_one (ps_ret pe_bl))
            (pss_nil))))))
      (pss_one (ps_ret pe_bl))))), ?_⟩
    obtain ⟨la, ls, rfl, ela, oa⟩ := od_tup hL
    have lls : ls.length = ps.length := by rw [oa.len, List.length_map]
    have l4 := hl.1
    refine ⟨_, rfl, la, rfl, ⟨ls, SqT.of ela⟩, fun D hD => lc_tup (K := K) (a := la) (xs := ls) (fun i H2 => Same H H2 ∧ H2 D = some (.lst (((ps.take i).map (fun p : Int × Int => p.2)).map V.int))) ⟨same_upd hD, upd_same⟩ (fun i H2 _ q => SqT.of (q.1 _ _ ela)) ?_ ?_⟩
    · rintro i x H2 hx ⟨s2, e2⟩
      obtain ⟨p, b, hp, rfl, eb⟩ := OdAll.pair oa hx
      have hip := (List.getElem?_eq_some_iff.mp hp).1
      refine ⟨rfl, ?_⟩
      unfold tYes
      dsimp only
      rw [if_pos rfl]
      refine ⟨_, rfl, b, [.int p.1, .int p.2], 1, .int p.2, rfl, rfl, SqT.of (s2 _ _ eb), rfl, _, e2, by rw [List.length_map, List.length_map, List.length_take]; omega, same_into hD s2, ?_⟩
      rw [upd_same, List.take_add_one, hp, List.map_append, List.map_append]
      rfl
    rintro H2 ⟨s2, e2⟩
    rw [lls, List.take_length] at e2
    refine ⟨by show 1 ≤ sizeLine; omega, fun c1 hc1 => ?_⟩
    have s3 := same_upd (o := HO.lst [V.int 1]) hc1
    refine ⟨D, c1, _, _, rfl, rfl, s3 _ _ e2, upd_same, by rw [List.length_map, List.length_map]; show _ + 1 ≤ sizeLine; omega, fun c2 hc2 => ?_⟩
    have s4 := same_upd (o := HO.lst ((ps.map (fun p : Int × Int => p.2)).map V.int ++ [V.int 1])) hc2
    have wge : ∀ x ∈ ps.map (fun p : Int × Int => p.2), 1 ≤ x := fun x hx => by
      obtain ⟨q, hq, rfl⟩ := List.mem_map.mp hx
      exact (hl.2 q hq).2.2.1
    refine ⟨c2, ps.map (fun p : Int × Int => p.2) ++ [1], rfl, by rw [List.map_append]; exact SqL.of upd_same, by rw [List.length_append]; exact Nat.succ_pos _, fun m hm hle => ⟨_, _, rfl, rfl, ?_⟩⟩
    have em : m - 1 = spanP ps := by rw [max_is wge hm hle]; rfl
    have s04 := s2.trans (s3.trans s4)
    generalize upd (upd H2 c1 (.lst [V.int 1])) c2 (.lst ((ps.map (fun p : Int × Int => p.2)).map V.int ++ [V.int 1])) = H4 at *
    refine gn ?_
    dsimp only
    rw [em]
    have hb := span_bound hl
    have hd4 := hd.same s04
    have k4 : ∀ H', Same H4 H' → Q (.bl (fitD ps d)) H' := fun H' s => k H' (s04.trans s)
    have el4 := s04 _ _ ela
    have oa4 := oa.same s04
    clear k s04 s2 s3 s4 e2 hm hle hd oa
    refine ⟨_, rfl, _, _, _, _, _, rfl, .ty _, hd4.ty, kTup d, _, rfl, ?_⟩
    rcases tup_or hd4 with ⟨a, xs, ds, rfl, rfl, ea, od⟩ | hn
    case inr =>
      have e : fitD ps d = false := by unfold fitD; rw [no_tup_row hn]; rfl
      have q := k4 _ (.refl _)
      rw [e] at q
      rw [hn]
      exact iteT (iteT q)
    have el := od.len
    have ef : fitD ps (.tuple ds) = (decide (((ds.length : Nat) : Int) = spanP ps) && (ds.all natD && (ps.flatMap (wins (ds.map numD) (spanP ps).toNat)).all id)) := by
      rw [← row_eq]; rfl
    refine iteF ⟨_, rfl, a, xs, rfl, .inr (SqT.of ea), _, rfl, rfl, _, rfl, ?_⟩
    by_cases hlen : ((ds.length : Nat) : Int) = spanP ps
    case neg =>
      have q := k4 _ (.refl _)
      rw [ef, decide_eq_false hlen] at q
      refine iteT' ?_ q
      have : ¬ V.int ((xs.length : Nat) : Int) = V.int (spanP ps) := fun q => hlen (by have := V.int.inj q; omega)
      rw [decide_eq_false this]
      rfl
    rw [decide_eq_true hlen, Bool.true_and] at ef
    refine iteF' ?_ (next_of ?_)
    · have : V.int ((xs.length : Nat) : Int) = V.int (spanP ps) := by rw [el, hlen]
      rw [decide_eq_true this]
      rfl
    dsimp only
    have bad : ∀ (i : Nat) (hi : i < ds.length), natD ds[i] = false → Q (.bl false) H4 := fun i hi q => by
      have : ds.all natD = false := by
        rw [Bool.eq_false_iff]
        intro z
        rw [List.all_eq_true.mp z _ (List.getElem_mem hi)] at q
        cases q
      rw [this] at ef
      have k5 := k4 _ (.refl _)
      rw [ef] at k5
      exact k5
    refine ⟨_, rfl, a, rfl, ⟨xs, SqT.of ea⟩, for_tup (K := K) (a := a) (xs := xs) (fun i σ H5 => H5 = H4 ∧ (∀ j (hj : j < ds.length), j < i → natD ds[j] = true) ∧ ∃ v4 : Option V, σ = [some (.ref la), some (.ref a), none, some (.int (spanP ps)), v4, none]) ⟨rfl, fun _ _ h => absurd h (Nat.not_lt_zero _), none, rfl⟩ (fun i σ H5 _ q => by rw [q.1]; exact SqT.of ea) ?_ ?_⟩
    · rintro i x σ H5 hx ⟨rfl, ho, v1, rfl⟩
      have hi : i < ds.length := by rw [← el]; exact (List.getElem?_eq_some_iff.mp hx).1
      obtain ⟨x', hx', ox⟩ := OdAll.get od (List.getElem?_eq_getElem hi)
      rw [hx] at hx'
      cases hx'
      have nb := bad i hi
      have good : natD ds[i] = true → (∀ j (hj : j < ds.length), j < i + 1 → natD ds[j] = true) := fun q j hj hji => by
        by_cases z : j = i
        · subst z; exact q
        · exact ho j hj (by omega)
      generalize ds[i] = di at *
      refine ⟨_, rfl, x, di, rfl, ox, _, rfl, ?_⟩
      cases w0 : wholeD di with
      | false =>
        have : natD di = false := by cases di <;> first | rfl | cases w0
        exact iteT (iteT (nb this))
      | true =>
        obtain ⟨n0, rfl, rfl⟩ := whole_int ox w0
        refine iteF ⟨_, rfl, _, _, rfl, rfl, _, rfl, ite2 (fun h => nb ?_) (fun h => ⟨rfl, good ?_, _, rfl⟩)⟩
        · have h := of_decide_eq_true h
          show decide (0 ≤ n0) = false
          exact decide_eq_false (by omega)
        · have : ¬ n0 < 0 := fun q => h (decide_eq_true q)
          exact decide_eq_true (by omega : 0 ≤ n0)
    rintro σ H5 ⟨rfl, ho, v4, rfl⟩
    have ha : ds.all natD = true := List.all_eq_true.mpr fun d hd => by
      obtain ⟨j, hj, rfl⟩ := List.getElem_of_mem hd
      exact ho j hj (by omega)
    rw [ha, Bool.true_and] at ef
    have ei := nat_ints ha
    clear bad ho hd4 ha
    generalize ens : ds.map numD = ns at *
    subst ei
    have exs := od_ints od
    subst exs
    have ln : ((ns.length : Nat) : Int) = spanP ps := by rw [← hlen, List.length_map]
    clear hlen el ens od
    generalize hLn : (spanP ps).toNat = L at *
    refine ⟨_, rfl, la, rfl, ⟨ls, SqT.of el4⟩, for_tup (K := K) (a := la) (xs := ls) (fun i σ H6 => Same H5 H6 ∧ (∀ (m : Nat) (hm : m < ps.length), m < i → ∀ j, j < L → win ns ps[m] j = true) ∧ ∃ v2 v4 v5 : Option V, σ = [some (.ref la), some (.ref a), v2, some (.int (spanP ps)), v4, v5]) ⟨.refl _, fun _ _ h => absurd h (Nat.not_lt_zero _), _, _, _, rfl⟩ (fun i σ H6 _ q => SqT.of (q.1 _ _ el4)) ?_ ?_⟩
    · rintro i x σ H6 hx ⟨s6, ho, v2, v4, v5, rfl⟩
      obtain ⟨p, b, hp, rfl, eb⟩ := OdAll.pair oa4 hx
      obtain ⟨hip, hpe⟩ := List.getElem?_eq_some_iff.mp hp
      have hpp := hl.2 p (List.mem_of_getElem? hp)
      refine ⟨_, rfl, spanP ps, rfl, by omega, by omega, ?_⟩
      rw [hLn]
      refine for_range (lo := 0) (n := L) (fun j σ H7 => Same H6 H7 ∧ (∀ j', j' < j → win ns p j' = true) ∧ ∃ v4 v5 : Option V, σ = [some (.ref la), some (.ref a), some (.ref b), some (.int (spanP ps)), v4, v5]) ⟨.refl _, fun _ h => absurd h (Nat.not_lt_zero _), _, _, rfl⟩ ?_ ?_
      · rintro j σ H7 hj ⟨s7, hw, v4, v5, rfl⟩
        have ej : (0 + (j : Int)) = ((j : Nat) : Int) := by omega
        have ew : (0 + (j : Int)) + p.2 = ((j + p.2.toNat : Nat) : Int) := by omega
        have eb7 := s7 _ _ (s6 _ _ eb)
        refine ifop ?_
        refine slice_sumH (ns := ns) (i := j) (w := p.2.toNat) (a := a) (fun Q' q => ⟨_, rfl, q⟩) (fun Q' q => ⟨_, rfl, by show Q' (.int (0 + (j : Int))) _; rw [ej]; exact q⟩) (fun Q' q => ⟨_, rfl, _, rfl, b, _, _, _, rfl, rfl, SqT.of eb7, rfl, _, _, rfl, rfl, by show Q' (.int ((0 + (j : Int)) + p.2)) _; rw [ew]; exact q⟩) (s7 _ _ (s6 _ _ ea)) fun H8 s8 => ?_
        refine ⟨_, rfl, b, _, _, _, rfl, rfl, SqT.of (s8 _ _ eb7), rfl, _, _, rfl, rfl, _, rfl, ite2 (fun h => ?_) (fun h => ⟨s7.trans s8, fun j' hj' => ?_, _, _, rfl⟩)⟩
        · have h := of_decide_eq_true h
          have hf : win ns p j = false := decide_eq_false (by omega)
          have q := k4 H8 (s6.trans (s7.trans s8))
          rw [ef, flat_false (List.mem_of_getElem? hp) hj hf] at q
          exact q
        · by_cases z : j' = j
          · subst z
            have : ¬ p.1 < ((ns.drop j').take p.2.toNat).sum := fun q => h (decide_eq_true q)
            exact decide_eq_true (by omega)
          · exact hw j' (by omega)
      · rintro σ H7 ⟨s7, hw, v4, v5, rfl⟩
        refine ⟨s6.trans s7, fun m hm hmi j hj => ?_, _, _, _, rfl⟩
        by_cases z : m = i
        · subst z
          rw [hpe]
          exact hw j hj
        · exact ho m hm (by omega) j hj
    · rintro σ H6 ⟨s6, ho, v2, v4, v5, rfl⟩
      have hall : (ps.flatMap (wins ns L)).all id = true := List.all_eq_true.mpr fun x hx => by
        obtain ⟨p, hp, hx⟩ := List.mem_flatMap.mp hx
        obtain ⟨j, hj, rfl⟩ := List.mem_map.mp hx
        obtain ⟨m, hm, rfl⟩ := List.getElem_of_mem hp
        exact ho m hm (by rw [lls]; exact hm) j (List.mem_range.mp hj)
      have q := k4 H6 s6
      rw [ef, hall] at q
      exact q
end
end KP

set_option Elab.async false
set_option maxRecDepth 100000
set_option maxHeartbeats 4000000
set_option linter.all false
/-! Ours: drawn counts. -/
namespace KP
open PySem PySem.Spec PyProof.Rows L2 Gr GxR
/-- a tuple of whole numbers -/
def IsI (H : Hp) (v : V) (ns : List Int) : Prop := ∃ a, v = .ref a ∧ H a = some (.tup (ns.map V.int))
theorem IsI.same {H H1 : Hp} {v : V} {ns : List Int} (h : IsI H v ns) (s : Same H H1) : IsI H1 v ns := let ⟨a, e, o⟩ := h; ⟨a, e, s _ _ o⟩
theorem IsI.but {H H1 : Hp} {v : V} {ns : List Int} {p : Addr} (h : IsI H v ns) (w : Well H p) (s : But H H1 p) : IsI H1 v ns := by
  obtain ⟨a, e, o⟩ := h
  refine ⟨a, e, s _ _ o fun z => ?_⟩
  obtain ⟨_, _, _, e2⟩ := w
  rw [z, e2] at o
  cases o
def cutI (ns : List Int) (lo hi : Option Int) : List Int := (ns.drop (HT.sIx ns.length 0 lo)).take (HT.sIx ns.length ns.length hi - HT.sIx ns.length 0 lo)
theorem cut_I (ns : List Int) (lo hi : Option Int) : cutV (ns.map V.int) lo hi = (cutI ns lo hi).map V.int := by
  unfold cutV cutI
  rw [List.length_map, List.map_take, List.map_drop]
theorem sl_I {K : PySem.W.Frag} {x : V} {ns : List Int} {lo hi : Option Int} {H : Hp} {Q : VK} (h : IsI H x ns) (k : ∀ z H', Same H H' → IsI H' z (cutI ns lo hi) → Q z H') : rSlA K x lo hi H Q := by
  obtain ⟨a, rfl, o⟩ := h
  refine ⟨a, _, rfl, SqT.of o, fun q => k _ _ (.refl _) ⟨a, rfl, ?_⟩, fun _ p hp => k _ _ (same_upd hp) ⟨p, rfl, by rw [upd_same, cut_I]⟩⟩
  have : cutV (ns.map V.int) lo hi = ns.map V.int := cut_whole q
  rw [cut_I] at this
  rw [o, this]
theorem cat_I {K : PySem.W.Frag} {x y : V} {ms ns : List Int} {H : Hp} {Q : VK} (hx : IsI H x ms) (hy : IsI H y ns) (hl : ms.length + ns.length ≤ 5000) (k : ∀ z H', Same H H' → IsI H' z (ms ++ ns) → Q z H') : rCatA K x y H Q := by
  have mz : 5000 ≤ sizeLine := by decide
  obtain ⟨a, rfl, oa⟩ := hx
  obtain ⟨b, rfl, ob⟩ := hy
  refine ⟨a, b, _, _, rfl, rfl, SqT.of oa, SqT.of ob, by rw [List.length_map, List.length_map]; omega, fun z => k _ _ (.refl _) ⟨b, rfl, ?_⟩, fun _ z => k _ _ (.refl _) ⟨a, rfl, ?_⟩, fun _ _ p hp => k _ _ (same_upd hp) ⟨p, rfl, by rw [upd_same, List.map_append]⟩⟩
  · rw [List.map_eq_nil_iff.mp z]; exact ob
  · rw [List.map_eq_nil_iff.mp z, List.append_nil]; exact oa
theorem rep_I {K : PySem.W.Frag} {x : V} {ns : List Int} {k : Int} {H : Hp} {Q : VK} (h : IsI H x ns) (h0 : ns ≠ []) (k0 : 0 ≤ k) (k1 : k ≤ 1000) (hl : ns.length ≤ 1000) (q : ∀ z H', Same H H' → IsI H' z (List.replicate k.toNat ns).flatten → Q z H') : rRepA K x (.int k) H Q := by
  obtain ⟨a, rfl, o⟩ := h
  refine ⟨a, k, _, rfl, rfl, SqT.of o, by simpa using h0, k0, k1, by rw [List.length_map]; exact hl, fun e => q _ _ (.refl _) ⟨a, rfl, ?_⟩, fun _ p hp => q _ _ (same_upd hp) ⟨p, rfl, ?_⟩⟩
  · subst e
    rw [o]
    show _ = some (HO.tup (((List.replicate 1 ns).flatten).map V.int))
    rw [List.replicate_one, List.flatten_singleton]
  · rw [upd_same, List.map_flatten, List.map_replicate]
theorem cut_a (ns : List Int) (r : Nat) : (cutI ns none (some (r : Int))).length ≤ r := by
  unfold cutI
  rw [HT.sIx_none, HT.sIx_nat, List.length_take, List.length_drop]
  omega
theorem cut_b (ns : List Int) (r : Nat) : (cutI ns (some (r : Int)) (some ((r + 1 : Nat) : Int))).length ≤ 1 := by
  unfold cutI
  rw [HT.sIx_nat, HT.sIx_nat, List.length_take, List.length_drop]
  omega
theorem cut_c (ns : List Int) (r : Nat) : (cutI ns (some ((r + 1 : Nat) : Int)) none).length ≤ ns.length - (r + 1) := by
  unfold cutI
  rw [HT.sIx_nat, HT.sIx_none, List.length_take, List.length_drop]
  omega
theorem IsI.od {H : Hp} {v : V} {ns : List Int} (h : IsI H v ns) : Od H v (.tuple (ns.map PyData.int)) := by
  obtain ⟨a, rfl, o⟩ := h
  exact .tup o (ints_od ns)
def spSomeCnt : Sp := fun vs H Q _ => ∃ (p : Addr) (lv : V) (ps : List (Int × Int)), vs = [.ref p, lv] ∧ Well H p ∧ Od (hide H [p]) lv (.tuple (ps.map prD)) ∧ Lim ps ∧ Drawn H p (capR 12) Q
theorem hide_sub {H : Hp} {l : List Addr} : Same (hide H l) H := fun a x e => by
  unfold hide at e
  split at e
  · cases e
  · exact e
section
variable {P : Program} {w : World} {K : PySem.W.Frag} {mg : Str → Option Value} {base : Heap}
theorem sc_scnt : FnScope ["_law_well_here", "_law_pairs", "_law_span", "_law_counts", "_law_turn", "_law_at", "_law_more", "_law_count", "_law_pair"] ["_law_well_here", "_law_pairs"] (defScope s_l_some_counts) := ⟨rfl, rfl, rfl, by decide +kernel, rfl, by decide +kernel, by decide +kernel⟩
theorem ok_scnt (T : D K mg) : FnOk P w K mg base CX0 3 T.f_l_some_counts T.d_l_some_counts ["_law_well_here", "_law_pairs"] spSomeCnt := by
  refine T.U_l_some_counts.ok sc_scnt (fun vs H Q E h => ?_) (fun cdv A outer s H vs Q E hr h => ?_)
  · obtain ⟨p, lv, ps, rfl, _⟩ := h
    rfl
  · obtain ⟨p, lv, ps, rfl, hp, hL, hl, k⟩ := h
    have nd := sc_scnt.nd
    have mz : 5000 ≤ sizeLine := by decide
    refine ⟨_, pss_cons (ps_set (i := 2) nd rfl (.inl rfl) (pe_op op_sub (pe_callB (cr_max rfl) (by rfl) T.max (by decide +kernel) (pa_cons (pe_op op_cat (pe_lc (own := [("_law_pair", 8)]) (g := gName 8) (tt := tYes) rfl nd (pi_tup (pv 1)) (blkOk_by (N := ["_law_well_here", "_law_pairs", "_law_span", "_law_counts", "_law_turn", "_law_at", "_law_more", "_law_count", "_law_pair"]) (sc := defScope s_l_some_counts) (by decide +kernel)) (fun _ _ _ _ _ => pg_name (i := 8) nd rfl (.inl rfl)) (fun _ _ _ _ _ => pts_nil) (fun _ _ _ _ _ => pe_ix ix_tupB (pv 8) pe_int (fun _ _ => rfl))) (pe_lst (pa_cons pe_int pa_nil))) pa_nil)) pe_int))
      (pss_cons (ps_set (i := 3) nd rfl (.inl rfl) (pe_op op_repA (pe_tup (pa_cons pe_int pa_nil)) (pv 2)))
      (pss_cons (ps_for PassesOwn.never rfl (pi_range1 rfl T.range (pa_cons (pv 2) pa_nil)) (pg_name (i := 4) nd rfl (.inr rfl))
        (pss_cons (ps_set (i := 6) nd rfl (.inl rfl) (pe_callTy call_tuple_of (by rfl) T.tuple (by decide +kernel) (pa_cons (pe_lc (own := [("_law_at", 5), ("_law_count", 7)]) (g := gTup _ 2 (gCons (gName 5) (gCons (gName 7) gNil))) (tt := tYes) rfl nd (pi_enumT (by rfl) T.enumerate (pa_cons (pv 3) pa_nil)) (blkOk_by (N := ["_law_well_here", "_law_pairs", "_law_span", "_law_counts", "_law_turn", "_law_at", "_law_more", "_law_count", "_law_pair"]) (sc := defScope s_l_some_counts) (by decide +kernel)) (fun _ _ _ _ _ => pg_tup rfl (pgs_cons (pg_name (i := 5) nd rfl (.inl rfl)) (pgs_cons (pg_name (i := 7) nd rfl (.inl rfl)) pgs_nil))) (fun _ _ _ _ _ => pts_nil) (fun _ _ _ _ _ => pe_op op_add (pv 7) (pe_callTy call_int1 (by rfl) T.int PyProof.Rows.boot_int (pa_cons (pe_cmpR op_eq (pv 5) (pv 4) (nomark _)) pa_nil)))) pa_nil)))
        (pss_one (ps_set (i := 3) nd rfl (.inl rfl) (pe_ifExp (PW.pt (pw_and (pt_cmpR op_eq (pe_call (ok_l_pick T) (hr.mono (by decide)) rfl T.g_l_pick T.U_l_pick.kp T.b_l_pick .nil pass0 (pa_cons (pv 0) (pa_cons pe_int pa_nil))) pe_int (nomark _)) (pw_and1 (pt_val (pe_call (ok_lcnt T) hr rfl T.g_l_are_counts T.U_l_are_counts.kp T.b_l_are_counts .nil pass0 (pa_cons (pv 1) (pa_cons (pv 6) pa_nil))))))) (pv 6) (pv 3))))))
      (pss_cons (ps_set (i := 5) nd rfl (.inl rfl) (pe_call (ok_l_pick T) (hr.mono (by decide)) rfl T.g_l_pick T.U_l_pick.kp T.b_l_pick .nil pass0 (pa_cons (pv 0) (pa_cons (pe_op op_add (pv 2) pe_int) pa_nil))))
      (pss_one (ps_ret (pe_op op_catA (pe_op op_catA (pe_slice sl_tupA (pv 3) po_none (po_some (pv 5))) (pe_callTy call_tuple_of (by rfl) T.tuple (by decide +kernel) (pa_cons (pe_lc (own := [("_law_count", 7)]) (g := gName 7) (tt := tYes) rfl nd (pi_tup (pe_slice sl_tupA (pv 3) (po_some (pv 5)) (po_some (pe_op op_add (pv 5) pe_int)))) (blkOk_by (N := ["_law_well_here", "_law_pairs", "_law_span", "_law_counts", "_law_turn", "_law_at", "_law_more", "_law_count", "_law_pair"]) (sc := defScope s_l_some_counts) (by decide +kernel)) (fun _ _ _ _ _ => pg_name (i := 7) nd rfl (.inl rfl)) (fun _ _ _ _ _ => pts_nil) (fun _ _ _ _ _ => pe_op op_add (pv 7) (pe_call (ok_l_pick T) (hr.mono (by decide)) rfl T.g_l_pick T.U_l_pick.kp T.b_l_pick .nil pass0 (pa_cons (pv 0) (pa_cons pe_int pa_nil))))) pa_nil))) (pe_slice sl_tupA (pv 3) (po_some (pe_op op_add (pv 5) pe_int)) po_none))))))), ?_⟩
    obtain ⟨la, ls, rfl, ela, oa⟩ := od_tup (hL.same hide_sub)
    have lls : ls.length = ps.length := by rw [oa.len, List.length_map]
    have l4 := hl.1
    refine ⟨_, rfl, la, rfl, ⟨ls, SqT.of ela⟩, fun D hD => lc_tup (K := K) (a := la) (xs := ls) (fun i H2 => Same H H2 ∧ H2 D = some (.lst (((ps.take i).map (fun p : Int × Int => p.2)).map V.int))) ⟨same_upd hD, upd_same⟩ (fun i H2 _ q => SqT.of (q.1 _ _ ela)) ?_ ?_⟩
    · rintro i x H2 hx ⟨s2, e2⟩
      obtain ⟨pr, b, hpr, rfl, eb⟩ := OdAll.pair oa hx
      have hip := (List.getElem?_eq_some_iff.mp hpr).1
      refine ⟨rfl, ?_⟩
      unfold tYes
      dsimp only
      rw [if_pos rfl]
      refine ⟨_, rfl, b, [.int pr.1, .int pr.2], 1, .int pr.2, rfl, rfl, SqT.of (s2 _ _ eb), rfl, _, e2, by rw [List.length_map, List.length_map, List.length_take]; omega, same_into hD s2, ?_⟩
      rw [upd_same, List.take_add_one, hpr, List.map_append, List.map_append]
      rfl
    rintro H2 ⟨s2, e2⟩
    rw [lls, List.take_length] at e2
    refine ⟨by show 1 ≤ sizeLine; omega, fun c1 hc1 => ?_⟩
    have s3 := same_upd (o := HO.lst [V.int 1]) hc1
    refine ⟨D, c1, _, _, rfl, rfl, s3 _ _ e2, upd_same, by rw [List.length_map, List.length_map]; show _ + 1 ≤ sizeLine; omega, fun c2 hc2 => ?_⟩
    have s4 := same_upd (o := HO.lst ((ps.map (fun p : Int × Int => p.2)).map V.int ++ [V.int 1])) hc2
    have wge : ∀ x ∈ ps.map (fun p : Int × Int => p.2), 1 ≤ x := fun x hx => by
      obtain ⟨q, hq, rfl⟩ := List.mem_map.mp hx
      exact (hl.2 q hq).2.2.1
    refine ⟨c2, ps.map (fun p : Int × Int => p.2) ++ [1], rfl, by rw [List.map_append]; exact SqL.of upd_same, by rw [List.length_append]; exact Nat.succ_pos _, fun m hm hle => ⟨_, _, rfl, rfl, ?_⟩⟩
    have em : m - 1 = spanP ps := by rw [max_is wge hm hle]; rfl
    have s04 := s2.trans (s3.trans s4)
    generalize upd (upd H2 c1 (.lst [V.int 1])) c2 (.lst ((ps.map (fun p : Int × Int => p.2)).map V.int ++ [V.int 1])) = H4 at *
    refine gn ?_
    dsimp only
    rw [em]
    have hb := span_bound hl
    have b4 : But H H4 p := But.same' s04
    have w4 := hp.same s04
    have el4 := s04 _ _ ela
    have oa4 := oa.same s04
    clear s04 s2 s3 s4 e2 hm hle oa
    have hL4 : Od (hide H4 [p]) (.ref la) (.tuple (ps.map prD)) := hL.same (hide_but b4)
    generalize hLn : (spanP ps).toNat = L at *
    refine ⟨by show 1 ≤ sizeLine; omega, fun c0 hc0 => ⟨_, rfl, rep_I (ns := [0]) ⟨c0, rfl, upd_same⟩ (by decide) hb.1 (by omega) (by decide) fun z0 H5 s5 iz0 => ?_⟩⟩
    have s45 := (same_upd (o := HO.tup [V.int 0]) hc0).trans s5
    have b5 := b4.trans (But.same' s45)
    have w5 := w4.same s45
    clear s5 hc0
    refine gn ?_
    dsimp only
    refine ⟨_, rfl, spanP ps, rfl, by omega, by omega, ?_⟩
    rw [hLn]
    refine for_range (lo := 0) (n := L) (fun i σ Hx => But H Hx p ∧ Well Hx p ∧ ∃ (z : V) (ns : List Int) (v4 v5 v6 v7 v8 : Option V), σ = [some (.ref p), some (.ref la), some (.int (spanP ps)), some z, v4, v5, v6, v7, v8] ∧ IsI Hx z ns ∧ ns.length = L) ⟨b5, w5, z0, _, _, _, _, _, _, rfl, iz0, ?_⟩ ?_ ?_
    · rw [hLn, List.length_flatten, List.map_replicate, List.sum_replicate_nat]
      exact Nat.mul_one _
    · rintro i σ Hx hi ⟨bx, wx, z, ns, v4, v5, v6, v7, v8, rfl, ⟨a, rfl, ea⟩, ln⟩
      refine ⟨_, rfl, a, _, rfl, SqT.of ea, fun D hD => lp_it (walk_tp (K := K) (a := a) (xs := ns.map V.int)) (fun j Hy => Same Hx Hy ∧ ∃ ms : List Int, Hy D = some (.lst (ms.map V.int)) ∧ ms.length = j) ⟨same_upd hD, [], upd_same, rfl⟩ (fun j Hy _ q => SqT.of (q.1 _ _ ea)) ?_ ?_⟩
      · rintro j x Hy Hy' hj ⟨s1, ms, e1, lm⟩ ⟨Tt, y, rfl, hT, rfl, hy⟩
        rw [List.getElem?_map] at hy
        obtain ⟨n, hn, rfl⟩ := Option.map_eq_some_iff.mp hy
        rw [List.length_map] at hj
        have sT := same_upd (o := HO.tup [V.int (j : Nat), V.int n]) hT
        refine ⟨Tt, _, rfl, SqT.of upd_same, rfl, _, _, rfl, _, _, rfl, rfl, rfl, ?_⟩
        unfold tYes
        dsimp only
        rw [if_pos rfl]
        refine ⟨_, rfl, _, rfl, _, rfl, rfl, .inr ⟨_, rfl, _, _, rfl, rfl, _, sT _ _ e1, by rw [List.length_map, lm]; omega, same_into hD (s1.trans sT), ms ++ [_], by rw [upd_same, List.map_append]; rfl, by rw [List.length_append, lm]; rfl⟩⟩
      · rintro Hy ⟨s1, ms, e1, lm⟩
        rw [List.length_map, ln] at lm
        refine ⟨D, _, rfl, .inl ⟨SqL.of e1, fun R hR => ?_⟩⟩
        have s2 := s1.trans (same_upd (o := HO.tup (ms.map V.int)) hR)
        have im : IsI (upd Hy R (.tup (ms.map V.int))) (.ref R) ms := ⟨R, rfl, upd_same⟩
        have ia : IsI (upd Hy R (.tup (ms.map V.int))) (.ref a) ns := ⟨a, rfl, s2 _ _ ea⟩
        have b2 := bx.trans (But.same' s2)
        have w2 := wx.same s2
        generalize upd Hy R (.tup (ms.map V.int)) = H6 at *
        refine gn ?_
        dsimp only
        have fin : ∀ (H7 : Hp) (zz : V) (os : List Int) (v4 v5 v6 v7 v8 : Option V), But H H7 p → Well H7 p → IsI H7 zz os → os.length = L → But H H7 p ∧ Well H7 p ∧ ∃ (z : V) (ns : List Int) (v4' v5' v6' v7' v8' : Option V), [some (V.ref p), some (.ref la), some (.int (spanP ps)), some zz, v4, v5, v6, v7, v8] = [some (V.ref p), some (.ref la), some (.int (spanP ps)), some z, v4', v5', v6', v7', v8'] ∧ IsI H7 z ns ∧ ns.length = L :=
          fun H7 zz os v4 v5 v6 v7 v8 b w i l => ⟨b, w, zz, os, v4, v5, v6, v7, v8, rfl, i, l⟩
        refine ⟨_, rfl, p, 3, rfl, w2, by decide, by decide, fun r H7 _ _ w7 b7 => ⟨rfl, _, rfl, ?_⟩⟩
        have b07 := b2.trans b7
        have im7 := im.but w2 b7
        have ia7 := ia.but w2 b7
        cases decide (V.int r = V.int 0) with
        | false => exact iteF ⟨_, rfl, fin _ _ _ _ _ _ _ _ b07 w7 ia7 ln⟩
        | true =>
          refine iteT ⟨_, rfl, _, rfl, _, _, ps, _, rfl, (hL.same (hide_but b07)).same hide_sub, hl, im7.od, fun H8 s8 => ⟨_, rfl, ?_⟩⟩
          have b08 := b07.trans (But.same' s8)
          cases fitD ps (.tuple (ms.map PyData.int)) with
          | false => exact iteF ⟨_, rfl, fin _ _ _ _ _ _ _ _ b08 (w7.same s8) (ia7.same s8) ln⟩
          | true => exact iteT ⟨_, rfl, fin _ _ _ _ _ _ _ _ b08 (w7.same s8) (im7.same s8) lm⟩
    · rintro σ Hx ⟨bx, wx, z, ns, v4, v5, v6, v7, v8, rfl, iz, ln⟩
      refine ⟨_, rfl, _, rfl, _, _, rfl, rfl, p, _, rfl, wx, by omega, by omega, fun r H6 r0 r1 w6 b6 => gn ?_⟩
      dsimp only
      have i6 := iz.but wx b6
      have b06 := bx.trans b6
      obtain ⟨c, rfl⟩ : ∃ c : Nat, r = c := ⟨r.toNat, by omega⟩
      have er : ((c : Nat) : Int) + 1 = ((c + 1 : Nat) : Int) := by omega
      refine ⟨_, rfl, _, rfl, _, rfl, sl_I i6 fun za H7 s7 ia => ?_⟩
      have i7 := i6.same s7
      have w7 := w6.same s7
      have b07 := b06.trans (But.same' s7)
      refine ⟨_, rfl, _, rfl, _, rfl, _, rfl, _, _, rfl, rfl, _, rfl, sl_I i7 fun zb H8 s8 ⟨b, eb, ob⟩ => ?_⟩
      subst eb
      rw [er] at ob
      have i8 := i7.same s8
      have w8 := w7.same s8
      have b08 := b07.trans (But.same' s8)
      have ia8 := ia.same s8
      have ib8 : IsI H8 (.ref b) _ := ⟨b, rfl, ob⟩
      have lb := cut_b ns c
      have la' := cut_a ns c
      have lc := cut_c ns c
      generalize cutI ns (some ((c : Nat) : Int)) (some ((c + 1 : Nat) : Int)) = bs at *
      refine ⟨b, rfl, ⟨_, SqT.of ob⟩, fun D hD => lc_tup (K := K) (a := b) (xs := bs.map V.int) (fun i Hy => But H8 Hy p ∧ Well Hy p ∧ ∃ ms : List Int, Hy D = some (.lst (ms.map V.int)) ∧ ms.length = i) ⟨But.same' (same_upd hD), w8.same (same_upd hD), [], upd_same, rfl⟩ (fun i Hy _ q => ?_) ?_ ?_⟩
      · obtain ⟨a', e', o'⟩ := ib8.but w8 q.1
        cases e'
        exact SqT.of o'
      · rintro i x Hy hx ⟨by2, wy, ms, e1, lm⟩
        have nDp := well_ne w8 hD
        rw [List.getElem?_map] at hx
        obtain ⟨n, hn, rfl⟩ := Option.map_eq_some_iff.mp hx
        have hi : i < bs.length := (List.getElem?_eq_some_iff.mp hn).1
        refine ⟨rfl, ?_⟩
        unfold tYes
        dsimp only
        rw [if_pos rfl]
        exact ⟨_, rfl, _, rfl, p, 2, rfl, wy, by decide, by decide, fun r H9 _ _ w9 b9 => ⟨_, _, rfl, rfl, _, b9 _ _ e1 nDp, by rw [List.length_map]; omega, (by2.trans b9).put hD, w9.put nDp, ms ++ [_], by rw [upd_same, List.map_append]; rfl, by rw [List.length_append, lm]; rfl⟩⟩
      · rintro Hy ⟨by2, wy, ms, e1, lm⟩
        rw [List.length_map] at lm
        refine ⟨D, _, rfl, .inl ⟨SqL.of e1, fun R hR => ?_⟩⟩
        have sR := same_upd (o := HO.tup (ms.map V.int)) hR
        have im : IsI (upd Hy R (.tup (ms.map V.int))) (.ref R) ms := ⟨R, rfl, upd_same⟩
        have ia9 := (ia8.but w8 by2).same sR
        have i9 := (i8.but w8 by2).same sR
        have b9 := (b08.trans by2).trans (But.same' sR)
        have w9 := wy.same sR
        generalize upd Hy R (.tup (ms.map V.int)) = H9 at *
        refine cat_I ia9 im (by omega) fun zc Ha sa ic => ?_
        refine ⟨_, rfl, _, rfl, _, _, rfl, rfl, _, rfl, ?_⟩
        dsimp only [tNoPart]
        refine sl_I (i9.same sa) fun zd Hb sb id' => ?_
        rw [er] at id'
        refine cat_I (ic.same sb) id' (by rw [List.length_append]; omega) fun ze Hc sc ie => ?_
        have s9c := (sa.trans sb).trans sc
        have wc := w9.same s9c
        obtain ⟨x, rfl, ox⟩ := ie
        refine k _ _ Hc (b9.trans (But.same' s9c)) wc (.tup (hide_at1 ox fun z => ?_) (ints_od _)) (cap_ints (by rw [List.length_append, List.length_append]; omega))
        obtain ⟨_, _, _, e2⟩ := wc
        rw [z, e2] at ox
        cases ox
end
end KP

set_option Elab.async false
set_option maxRecDepth 100000
set_option maxHeartbeats 4000000
set_option linter.all false
/-! Ours: bent values, at any depth. -/
namespace KP
open PySem PySem.Spec PyProof.Rows L2 Gr GxR
mutual
theorem cap_mono {m n : Nat} (h : m ≤ n) : ∀ {d : PyData}, capD m d = true → capD n d = true
  | .str z, e => by
    unfold capD at e ⊢
    rw [Bool.and_eq_true, decide_eq_true_eq] at e ⊢
    exact ⟨by omega, e.2⟩
  | .tuple l, e => by
    unfold capD at e ⊢
    rw [Bool.and_eq_true, decide_eq_true_eq] at e ⊢
    exact ⟨by omega, capAll_mono h e.2⟩
  | .list l, e => by
    unfold capD at e ⊢
    rw [Bool.and_eq_true, decide_eq_true_eq] at e ⊢
    exact ⟨by omega, capAll_mono h e.2⟩
  | .none, _ => rfl
  | .bool _, _ => rfl
  | .int _, _ => rfl
  | .dict _, _ => rfl
theorem capAll_mono {m n : Nat} (h : m ≤ n) : ∀ {l : List PyData}, capAll m l = true → capAll n l = true
  | [], _ => rfl
  | d :: l, e => by
    unfold capAll at e ⊢
    rw [Bool.and_eq_true] at e ⊢
    exact ⟨cap_mono h e.1, capAll_mono h e.2⟩
end
theorem cap_str {n : Nat} {z : Str} : capD n (.str z) = true ↔ z.length ≤ n ∧ ∀ c ∈ z.cps.toList, c < 128 := by
  unfold capD
  rw [Bool.and_eq_true, decide_eq_true_eq, List.all_eq_true]
  constructor
  · rintro ⟨a, b⟩
    exact ⟨a, fun c hc => of_decide_eq_true (b c hc)⟩
  · rintro ⟨a, b⟩
    exact ⟨a, fun c hc => decide_eq_true (b c hc)⟩
theorem lst_cap {n : Nat} {l : List PyData} (h : l.length ≤ n) (h2 : ∀ d ∈ l, capD n d = true) : capD n (.list l) = true := by
  unfold capD
  rw [Bool.and_eq_true, decide_eq_true_eq]
  exact ⟨h, capAll_iff.mpr h2⟩
def cutD (ds : List PyData) (lo hi : Option Int) : List PyData := (ds.drop (HT.sIx ds.length 0 lo)).take (HT.sIx ds.length ds.length hi - HT.sIx ds.length 0 lo)
theorem cutD_sub {ds : List PyData} {lo hi : Option Int} {d : PyData} (h : d ∈ cutD ds lo hi) : d ∈ ds := List.mem_of_mem_drop (List.mem_of_mem_take h)
theorem oda_cut {H : Hp} {xs : List V} {ds : List PyData} (o : OdAll H xs ds) (lo hi : Option Int) : OdAll H (cutV xs lo hi) (cutD ds lo hi) := by
  unfold cutV cutD
  rw [o.len]
  exact (o.drop _).take _
theorem well_at {H : Hp} {p a : Addr} {xs : List V} (w : Well H p) (e : H a = some (.tup xs)) : a ≠ p := fun z => by
  obtain ⟨_, _, _, e2⟩ := w
  rw [z, e2] at e
  cases e
theorem od_tp {H : Hp} {p : Addr} {v : V} {ds : List PyData} (h : Od (hide H [p]) v (.tuple ds)) : ∃ a xs, v = .ref a ∧ H a = some (.tup xs) ∧ OdAll (hide H [p]) xs ds := by
  obtain ⟨a, xs, rfl, e, o⟩ := od_tup h
  exact ⟨a, xs, rfl, hide_sub _ _ e, o⟩
theorem od_mk {H : Hp} {p a : Addr} {xs : List V} {ds : List PyData} (w : Well H p) (e : H a = some (.tup xs)) (o : OdAll (hide H [p]) xs ds) : Od (hide H [p]) (.ref a) (.tuple ds) :=
  .tup (hide_at1 e (well_at w e)) o
theorem sl_D {K : PySem.W.Frag} {x : V} {p : Addr} {ds : List PyData} {lo hi : Option Int} {H : Hp} {Q : VK} (w : Well H p) (h : Od (hide H [p]) x (.tuple ds)) (k : ∀ z H', Same H H' → Od (hide H' [p]) z (.tuple (cutD ds lo hi)) → Q z H') : rSlA K x lo hi H Q := by
  obtain ⟨a, xs, rfl, e, o⟩ := od_tp h
  refine ⟨a, _, rfl, SqT.of e, fun q => k _ _ (.refl _) (od_mk w e ?_), fun _ r hr => k _ _ (same_upd hr) (od_mk (w.same (same_upd hr)) upd_same ((oda_cut o lo hi).same (hide_but (But.same' (same_upd hr)))))⟩
  have := oda_cut o lo hi
  rw [cut_whole q] at this
  exact this
theorem cat_D {K : PySem.W.Frag} {x y : V} {p : Addr} {ds es : List PyData} {H : Hp} {Q : VK} (w : Well H p) (hx : Od (hide H [p]) x (.tuple ds)) (hy : Od (hide H [p]) y (.tuple es)) (hl : ds.length + es.length ≤ 5000) (k : ∀ z H', Same H H' → Od (hide H' [p]) z (.tuple (ds ++ es)) → Q z H') : rCatA K x y H Q := by
  have mz : 5000 ≤ sizeLine := by decide
  obtain ⟨a, xs, rfl, ea, oa⟩ := od_tp hx
  obtain ⟨b, ys, rfl, eb, ob⟩ := od_tp hy
  have la := oa.len
  have lb := ob.len
  refine ⟨a, b, _, _, rfl, rfl, SqT.of ea, SqT.of eb, by omega, fun z => k _ _ (.refl _) ?_, fun _ z => k _ _ (.refl _) ?_, fun _ _ r hr => k _ _ (same_upd hr) (od_mk (w.same (same_upd hr)) upd_same ((oa.app ob).same (hide_but (But.same' (same_upd hr)))))⟩
  · subst z
    have : ds = [] := List.eq_nil_of_length_eq_zero la.symm
    rw [this]
    exact hy
  · subst z
    have : es = [] := List.eq_nil_of_length_eq_zero lb.symm
    rw [this, List.append_nil]
    exact hx
theorem split_if {c : TT} {t u : TS} {D : Ends} {σ : L2.St} {H : Hp} (P1 P2 : Hp → Prop) (hc : ∀ Q : Bool → Hp → Prop, (∀ H', P1 H' → Q true H') → (∀ H', P2 H' → Q false H') → c σ H Q) (h1 : ∀ H', P1 H' → t D σ H') (h2 : ∀ H', P2 H' → u D σ H') : tIfS c t u D σ H :=
  hc _ (fun H' q => iteT (h1 H' q)) (fun H' q => iteF (h2 H' q))
theorem split_ifS {c : TT} {t u : TS} {rest : TS} {D : Ends} {σ : L2.St} {H : Hp} (P1 P2 : Hp → Prop) (hc : ∀ Q : Bool → Hp → Prop, (∀ H', P1 H' → Q true H') → (∀ H', P2 H' → Q false H') → c σ H Q) (h1 : ∀ H', P1 H' → t { D with nx := rest D } σ H') (h2 : ∀ H', P2 H' → u { D with nx := rest D } σ H') : tSeq (tIfS c t u) rest D σ H :=
  hc _ (fun H' q => iteT (h1 H' q)) (fun H' q => iteF (h2 H' q))
theorem app_len (a b : Str) : (a ++ b).length = a.length + b.length := by
  rw [tx_len, tx_app, List.length_append]
  rfl
theorem od_sm {H H1 : Hp} {p : Addr} {v : V} {d : PyData} (o : Od (hide H [p]) v d) (s : Same H H1) : Od (hide H1 [p]) v d := o.same (hide_but (But.same' s))
theorem dcut_a (ns : List PyData) (r : Nat) : (cutD ns none (some (r : Int))).length ≤ r := by
  unfold cutD
  rw [HT.sIx_none, HT.sIx_nat, List.length_take, List.length_drop]
  omega
theorem dcut_b (ns : List PyData) (r : Nat) : (cutD ns (some (r : Int)) (some (((r : Nat) : Int) + 1))).length ≤ 1 := by
  unfold cutD
  rw [show ((r : Nat) : Int) + 1 = ((r + 1 : Nat) : Int) from rfl, HT.sIx_nat, HT.sIx_nat, List.length_take, List.length_drop]
  omega
theorem dcut_c (ns : List PyData) (r : Nat) : (cutD ns (some (((r : Nat) : Int) + 1)) none).length ≤ ns.length - (r + 1) := by
  unfold cutD
  rw [show ((r : Nat) : Int) + 1 = ((r + 1 : Nat) : Int) from rfl, HT.sIx_nat, HT.sIx_none, List.length_take, List.length_drop]
  omega
theorem dcut_d (ns : List PyData) (r : Nat) : (cutD ns (some ((r : Nat) : Int)) none).length ≤ ns.length - r := by
  unfold cutD
  rw [HT.sIx_nat, HT.sIx_none, List.length_take, List.length_drop]
  omega
def spB (dep : Int) : Sp := fun vs H Q _ => ∃ (p : Addr) (v : V) (d : PyData) (n : Nat), vs = [.ref p, v, .int dep] ∧ Well H p ∧ Od (hide H [p]) v d ∧ capD n d = true ∧ 12 ≤ n ∧ n ≤ 900 ∧ Drawn H p (capR (n + 1)) Q
section
variable {P : Program} {w : World} {K : PySem.W.Frag} {mg : Str → Option Value} {base : Heap}
theorem sc_bent : FnScope ["_law_well_here", "_law_value", "_law_depth", "_law_at", "_law_sign", "_law_way"] ["_law_well_here", "_law_value", "_law_depth"] (defScope s_l_bent) := ⟨rfl, rfl, rfl, by decide +kernel, rfl, by decide +kernel, by decide +kernel⟩
theorem ok_bent1 (T : D K mg) {L : Nat} (hL : 3 ≤ L) {sp : Sp} (rec : FnOk P w K mg base CX0 L T.f_l_bent T.d_l_bent ["_law_well_here", "_law_value", "_law_depth"] sp) {dep : Int} (hsp : dep ≤ 4 → ∀ vs H Q E, spB (dep + 1) vs H Q E → sp vs H Q E) :
    FnOk P w K mg base CX0 (L + 1) T.f_l_bent T.d_l_bent ["_law_well_here", "_law_value", "_law_depth"] (spB dep) := by
  refine T.U_l_bent.ok sc_bent (fun vs H Q E h => ?_) (fun cdv A outer s H vs Q E hr h => ?_)
  · obtain ⟨p, v, d, n, rfl, _⟩ := h
    rfl
  · obtain ⟨p, v, d, n, rfl, hp, hd, hc, n0, n1, k⟩ := h
    have nd := sc_bent.nd
    have mz : 5000 ≤ sizeLine := by decide
    have hr1 : Room 1 (A.deeper (envOfC "_law_bent" (defScope s_l_bent) s.heap.objs.size T.f_l_bent cdv)) := hr.mono (by omega)
    have hr2 : Room 2 (A.deeper (envOfC "_law_bent" (defScope s_l_bent) s.heap.objs.size T.f_l_bent cdv)) := hr.mono (by omega)
    have hr3 : Room 3 (A.deeper (envOfC "_law_bent" (defScope s_l_bent) s.heap.objs.size T.f_l_bent cdv)) := hr.mono (by omega)
    have hu : (A.deeper (envOfC "_law_bent" (defScope s_l_bent) s.heap.objs.size T.f_l_bent cdv)).units + 64 < cLine := by have := hr1.un; omega
    refine ⟨_, pss_cons (ps_if (PW.pt (pw_or (pt_not (pt_val (pe_callB call_isi (by rfl) T.isinstance (by decide +kernel) (pa_cons (pv 1) (pa_cons (pe_bltn (v := .ty "tuple") (by rfl) T.tuple (by decide +kernel) rfl) pa_nil))))) (pw_or (pt_cmpR (op_eqT0 hu) (pv 1) (pe_tup pa_nil) (nomark _)) (pw_or (pt_cmpR op_eq (pe_call (ok_l_pick T) hr1 rfl T.g_l_pick T.U_l_pick.kp T.b_l_pick .nil pass0 (pa_cons (pv 0) (pa_cons pe_int pa_nil))) pe_int (nomark _)) (pw_or1 (pt_cmpR op_gt (pv 2) pe_int (nomark _)))))))
        (pss_cons (ps_if (PW.pt (pw_and (pt_val (pe_call (ok_lwhole T) hr1 rfl T.g_l_is_whole T.U_l_is_whole.kp T.b_l_is_whole .nil pass0 (pa_cons (pv 1) pa_nil))) (pw_and1 (pt_cmpR op_gt (pe_call (ok_l_pick T) hr1 rfl T.g_l_pick T.U_l_pick.kp T.b_l_pick .nil pass0 (pa_cons (pv 0) (pa_cons pe_int pa_nil))) pe_int (nomark _)))))
          (pss_one (ps_ret (pe_call (ok_l_one T) hr2 rfl T.g_l_one T.U_l_one.kp T.b_l_one .nil pass0 (pa_cons (pv 0) (pa_cons (pe_lst (pa_cons (pe_op op_sub (pv 1) pe_int) (pa_cons (pe_op op_add (pv 1) pe_int) (pa_cons pe_int (pa_cons pe_int (pa_cons pe_int (pa_cons pe_int (pa_cons pe_int (pa_cons (pe_un un_neg (pv 1)) (pa_cons pe_bl pa_nil)))))))))) pa_nil)))))
          (pss_nil))
        (pss_cons (ps_if (PW.pt (pw_and (pt_val (pe_callB call_isi (by rfl) T.isinstance (by decide +kernel) (pa_cons (pv 1) (pa_cons (pe_bltn (v := .ty "str") (by rfl) T.str (by decide +kernel) rfl) pa_nil)))) (pw_and1 (pt_cmpR op_gt (pe_call (ok_l_pick T) hr1 rfl T.g_l_pick T.U_l_pick.kp T.b_l_pick .nil pass0 (pa_cons (pv 0) (pa_cons pe_int pa_nil))) pe_int (nomark _)))))
          (pss_cons (ps_par (i := 3) (j := 4) (by rfl) nd rfl rfl (by decide) rfl rfl (pa_cons (pe_call (ok_l_pick T) hr1 rfl T.g_l_pick T.U_l_pick.kp T.b_l_pick .nil pass0 (pa_cons (pv 0) (pa_cons (pe_op op_add (pe_callB call_len_str (by rfl) T.len PySem.boot_len (pa_cons (pv 1) pa_nil)) pe_int) pa_nil))) (pa_cons (pe_call (ok_l_one T) hr2 rfl T.g_l_one T.U_l_one.kp T.b_l_one .nil pass0 (pa_cons (pv 0) (pa_cons (pe_lst (pa_cons pe_str (pa_cons pe_str (pa_cons pe_str (pa_cons pe_str (pa_cons pe_str (pa_cons pe_str (pa_cons pe_str (pa_cons pe_str pa_nil))))))))) pa_nil))) pa_nil)) (by rfl))
          (pss_one (ps_ret (pe_op op_add_str (pe_op op_add_str (pe_slice sl_str (pv 1) po_none (po_some (pv 3))) (pv 4)) (pe_slice sl_str (pv 1) (po_some (pe_op op_add (pv 3) (pe_call (ok_l_pick T) hr1 rfl T.g_l_pick T.U_l_pick.kp T.b_l_pick .nil pass0 (pa_cons (pv 0) (pa_cons pe_int pa_nil))))) po_none)))))
          (pss_nil))
        (pss_one (ps_ret (pe_call (ok_l_one T) hr2 rfl T.g_l_one T.U_l_one.kp T.b_l_one .nil pass0 (pa_cons (pv 0) (pa_cons (pe_lst (pa_cons (pe_call (ok_odd T) hr3 rfl T.g_l_odd T.U_l_odd.kp T.b_l_odd .nil pass0 (pa_cons (pv 0) pa_nil)) (pa_cons (pe_call (ok_odd T) hr3 rfl T.g_l_odd T.U_l_odd.kp T.b_l_odd .nil pass0 (pa_cons (pv 0) pa_nil)) (pa_cons (pe_ifExp (pt_val (pe_callB call_isi (by rfl) T.isinstance (by decide +kernel) (pa_cons (pv 1) (pa_cons (pe_bltn (v := .ty "tuple") (by rfl) T.tuple (by decide +kernel) rfl) pa_nil)))) (pe_callTy call_list_of (by rfl) T.list (by decide +kernel) (pa_cons (pv 1) pa_nil)) (pe_lst (pa_cons (pv 1) pa_nil))) pa_nil)))) pa_nil)))))))
        (pss_nil))
      (pss_cons (ps_par (i := 3) (j := 5) (by rfl) nd rfl rfl (by decide) rfl rfl (pa_cons (pe_call (ok_l_pick T) hr1 rfl T.g_l_pick T.U_l_pick.kp T.b_l_pick .nil pass0 (pa_cons (pv 0) (pa_cons (pe_callB call_len_seq (by rfl) T.len PySem.boot_len (pa_cons (pv 1) pa_nil)) pa_nil))) (pa_cons (pe_call (ok_l_pick T) hr1 rfl T.g_l_pick T.U_l_pick.kp T.b_l_pick .nil pass0 (pa_cons (pv 0) (pa_cons pe_int pa_nil))) pa_nil)) (by rfl))
      (pss_cons (ps_if (pt_cmpR op_eq (pv 5) pe_int (nomark _))
        (pss_one (ps_ret (pe_op op_catA (pe_slice sl_tupA (pv 1) po_none (po_some (pv 3))) (pe_slice sl_tupA (pv 1) (po_some (pe_op op_add (pv 3) pe_int)) po_none))))
        (pss_nil))
      (pss_cons (ps_if (pt_cmpR op_eq (pv 5) pe_int (nomark _))
        (pss_one (ps_ret (pe_op op_catA (pe_op op_catA (pe_slice sl_tupA (pv 1) po_none (po_some (pv 3))) (pe_slice sl_tupA (pv 1) (po_some (pv 3)) (po_some (pe_op op_add (pv 3) pe_int)))) (pe_slice sl_tupA (pv 1) (po_some (pv 3)) po_none))))
        (pss_nil))
      (pss_cons (ps_if (pt_cmpR op_eq (pv 5) pe_int (nomark _))
        (pss_one (ps_ret (pe_op op_catA (pe_op op_catA (pe_slice sl_tupA (pv 1) po_none (po_some (pv 3))) (pe_tup (pa_cons (pe_call (ok_odd T) hr3 rfl T.g_l_odd T.U_l_odd.kp T.b_l_odd .nil pass0 (pa_cons (pv 0) pa_nil)) pa_nil))) (pe_slice sl_tupA (pv 1) (po_some (pv 3)) po_none))))
        (pss_nil))
      (pss_one (ps_ret (pe_op op_catA (pe_op op_catA (pe_slice sl_tupA (pv 1) po_none (po_some (pv 3))) (pe_tup (pa_cons (pe_call rec hr rfl T.g_l_bent T.U_l_bent.kp T.b_l_bent .nil pass0 (pa_cons (pv 0) (pa_cons (pe_ix ix_tup (pv 1) (pv 3) (fun _ _ => rfl)) (pa_cons (pe_op op_add (pv 2) pe_int) pa_nil)))) pa_nil))) (pe_slice sl_tupA (pv 1) (po_some (pe_op op_add (pv 3) pe_int)) po_none)))))))), ?_⟩
    have hd0 := hd.same hide_sub
    refine split_ifS (fun H' => But H H' p ∧ Well H' p) (fun H' => But H H' p ∧ Well H' p ∧ dep ≤ 4 ∧ ∃ ds, d = .tuple ds ∧ ds ≠ []) (fun Q' qT qF => ?_) ?_ ?_
    · refine ⟨_, rfl, _, _, _, _, _, rfl, .ty _, hd0.ty, kTup d, _, rfl, ?_⟩
      rcases tup_or hd0 with ⟨a, xs, ds, rfl, rfl, ea, oa⟩ | hn
      case inr =>
        rw [hn]
        exact iteT (qT _ ⟨But.refl _ _, hp⟩)
      have el := oa.len
      refine iteF ⟨_, rfl, by show 0 ≤ sizeLine; omega, fun q hq => ⟨a, q, xs, rfl, rfl, SqT.of (same_upd hq _ _ ea), SqT.of upd_same, _, rfl, ite2 (fun h => ?_) (fun h => ?_)⟩⟩
      · exact qT _ ⟨But.same' (same_upd hq), hp.same (same_upd hq)⟩
      · have hne : ds ≠ [] := fun z => h (decide_eq_true (by rw [el, z]; rfl))
        refine ⟨_, rfl, p, 5, rfl, hp.same (same_upd hq), by decide, by decide, fun r H2 _ _ w2 b2 => ⟨rfl, _, rfl, ite2 (fun _ => ?_) (fun _ => ?_)⟩⟩
        · exact qT _ ⟨(But.same' (same_upd hq)).trans b2, w2⟩
        · refine ⟨_, rfl, _, _, rfl, rfl, _, rfl, ?_⟩
          cases hdp : decide (4 < dep) with
          | true => exact qT _ ⟨(But.same' (same_upd hq)).trans b2, w2⟩
          | false => exact qF _ ⟨(But.same' (same_upd hq)).trans b2, w2, by have := of_decide_eq_false hdp; omega, ds, rfl, hne⟩
    · rintro H1 ⟨b1, w1⟩
      have hd1 := hd.same (hide_but b1)
      refine split_ifS (fun H' => But H H' p ∧ Well H' p ∧ ∃ i, v = .int i ∧ d = .int i) (fun H' => But H H' p ∧ Well H' p) (fun Q' qT qF => ?_) ?_ ?_
      · refine ⟨_, rfl, v, d, rfl, hd1.same hide_sub, _, rfl, ?_⟩
        cases wd : wholeD d with
        | false => exact iteF (qF _ ⟨b1, w1⟩)
        | true =>
          obtain ⟨i, rfl, rfl⟩ := whole_int hd1 wd
          refine iteT ⟨_, rfl, p, 3, rfl, w1, by decide, by decide, fun r H2 _ _ w2 b2 => ⟨_, _, rfl, rfl, _, rfl, ?_⟩⟩
          cases decide (0 < r) with
          | true => exact qT _ ⟨b1.trans b2, w2, i, rfl, rfl⟩
          | false => exact qF _ ⟨b1.trans b2, w2⟩
      · rintro H2 ⟨b2, w2, i, rfl, rfl⟩
        refine ⟨_, rfl, _, rfl, _, _, rfl, rfl, _, rfl, _, _, rfl, rfl, _, rfl, _, rfl, by show 9 ≤ sizeLine; omega, fun q hq => ?_⟩
        refine ⟨p, q, _, rfl, w2.same (same_upd hq), upd_same, well_ne w2 hq, Nat.zero_lt_succ _, by show 9 ≤ 1000; omega, fun j x H3 hx w3 b3 => ?_⟩
        have hx := List.mem_of_getElem? hx
        have : ∃ d', capD (n + 1) d' = true ∧ Od (hide H3 [p]) x d' := by
          simp only [List.mem_cons, List.not_mem_nil, or_false] at hx
          rcases hx with rfl | rfl | rfl | rfl | rfl | rfl | rfl | rfl | rfl
          all_goals first
            | exact ⟨.int _, rfl, .int _⟩
            | exact ⟨.bool _, rfl, .bl _⟩
        obtain ⟨d', hc', od'⟩ := this
        exact k x d' H3 (b2.trans ((But.same' (same_upd hq)).trans b3)) w3 od' hc'
      · rintro H2 ⟨b2, w2⟩
        refine next_of ?_
        dsimp only
        have hd2 := hd.same (hide_but b2)
        have hd2' := hd2.same hide_sub
        refine split_ifS (fun H' => But H H' p ∧ Well H' p ∧ ∃ z, v = .str z ∧ d = .str z) (fun H' => But H H' p ∧ Well H' p) (fun Q' qT qF => ?_) ?_ ?_
        · refine ⟨_, rfl, _, _, _, _, _, rfl, .ty _, hd2'.ty, kStr d, _, rfl, ?_⟩
          rcases str_or hd2' with ⟨z, rfl, rfl⟩ | hn
          case inr =>
            rw [hn]
            exact iteF (qF _ ⟨b2, w2⟩)
          refine iteT ⟨_, rfl, p, 3, rfl, w2, by decide, by decide, fun r H3 _ _ w3 b3 => ⟨_, _, rfl, rfl, _, rfl, ?_⟩⟩
          cases decide (0 < r) with
          | true => exact qT _ ⟨b2.trans b3, w3, z, rfl, rfl⟩
          | false => exact qF _ ⟨b2.trans b3, w3⟩
        · rintro H3 ⟨b3, w3, z, rfl, rfl⟩
          obtain ⟨lz, hz⟩ := cap_str.mp hc
          refine ⟨_, rfl, _, rfl, z, rfl, by omega, _, _, rfl, rfl, p, _, rfl, w3, by omega, by omega, fun r H4 r0 r1 w4 b4 => ?_⟩
          obtain ⟨c, rfl⟩ : ∃ c : Nat, r = c := ⟨r.toNat, by omega⟩
          refine ⟨_, rfl, by show 8 ≤ sizeLine; omega, fun q hq => ⟨p, q, _, rfl, w4.same (same_upd hq), upd_same, well_ne w4 hq, Nat.zero_lt_succ _, by show 8 ≤ 1000; omega, fun j x H5 hx w5 b5 => ?_⟩⟩
          obtain ⟨u, rfl, lu, hu'⟩ : ∃ u : Str, x = .str u ∧ u.length ≤ 1 ∧ ∀ c ∈ u.cps.toList, c < 128 := by
            have hx := List.mem_of_getElem? hx
            simp only [List.mem_cons, List.not_mem_nil, or_false] at hx
            rcases hx with rfl | rfl | rfl | rfl | rfl | rfl | rfl | rfl
            all_goals exact ⟨_, rfl, by decide +kernel, by decide +kernel⟩
          have l1 := cutS_length z none (some ((c : Nat) : Int))
          have e1 := cut_to z c
          refine ⟨_, _, rfl, ?_⟩
          dsimp only
          refine ⟨_, rfl, _, rfl, _, rfl, z, rfl, by omega, _, rfl, _, _, rfl, rfl, by omega, _, rfl, _, rfl, _, rfl, p, 2, rfl, w5, by decide, by decide, fun r2 H6 r20 r21 w6 b6 => ?_⟩
          obtain ⟨c2, rfl⟩ : ∃ c2 : Nat, r2 = c2 := ⟨r2.toNat, by omega⟩
          have e2 := cut_from z (c + c2)
          have l2 := cutS_length z (some ((c + c2 : Nat) : Int)) none
          refine ⟨_, _, rfl, rfl, _, rfl, z, rfl, by omega, _, _, rfl, rfl, by
            rw [app_len]
            show _ + (cutS z (some ((c + c2 : Nat) : Int)) none).length ≤ _
            omega, ?_⟩
          refine k _ (.str _) H6 (b3.trans (b4.trans ((But.same' (same_upd hq)).trans (b5.trans b6)))) w6 (.str _) (cap_str.mpr ⟨?_, fun x hx => ?_⟩)
          · rw [app_len, app_len]
            show (cutS z none (some ((c : Nat) : Int))).length + u.length + (cutS z (some ((c + c2 : Nat) : Int)) none).length ≤ n + 1
            rw [tx_len (cutS z none _), e1, tx_len (cutS z _ none), e2, List.length_take, List.length_drop, ← tx_len]
            omega
          · rw [tx_app, tx_app] at hx
            rcases List.mem_append.mp hx with h | h
            · rcases List.mem_append.mp h with h | h
              · rw [e1] at h
                exact hz x (List.mem_of_mem_take h)
              · exact hu' x h
            · have h : x ∈ (cutS z (some ((c + c2 : Nat) : Int)) none).cps.toList := h
              rw [e2] at h
              exact hz x (List.mem_of_mem_drop h)
        · rintro H3 ⟨b3, w3⟩
          refine next_of ?_
          dsimp only
          refine ⟨_, rfl, _, rfl, p, [], rfl, w3, (fun x hx => nomatch hx), fun v1 d1 H4 b4 w4 o4 c4 => ⟨_, rfl, p, [], rfl, w4, (fun x hx => nomatch hx), fun v2 d2 H5 b5 w5 o5 c5 => ?_⟩⟩
          have b05 := b3.trans (b4.trans b5)
          have o45 := o4.same (hide_but b5)
          have hd5 := hd.same (hide_but b05)
          have hd5' := hd5.same hide_sub
          have fin3 : ∀ (H6 : Hp) (v3 : V) (d3 : PyData), Same H5 H6 → Od (hide H6 [p]) v3 d3 → capD (n + 1) d3 = true → ∀ q, H6 q = none → ∀ (j : Nat) (x : V) (H9 : Hp), [v1, v2, v3][j]? = some x → Well H9 p → But (upd H6 q (.lst [v1, v2, v3])) H9 p → Q x H9 := by
            intro H6 v3 d3 s6 o3 c3 q hq j x H9 hx w9 b9
            have hx := List.mem_of_getElem? hx
            have b69 := (But.same' (same_upd (o := HO.lst [v1, v2, v3]) hq)).trans b9
            have : ∃ d', capD (n + 1) d' = true ∧ Od (hide H9 [p]) x d' := by
              simp only [List.mem_cons, List.not_mem_nil, or_false] at hx
              rcases hx with rfl | rfl | rfl
              · exact ⟨d1, cap_mono (by omega) c4, (od_sm o45 s6).same (hide_but b69)⟩
              · exact ⟨d2, cap_mono (by omega) c5, (od_sm o5 s6).same (hide_but b69)⟩
              · exact ⟨d3, c3, o3.same (hide_but b69)⟩
            obtain ⟨d', hc', od'⟩ := this
            exact k x d' H9 (b05.trans ((But.same' s6).trans b69)) w9 od' hc'
          refine ⟨_, rfl, _, _, _, _, _, rfl, .ty _, hd5'.ty, kTup d, _, rfl, ?_⟩
          rcases tup_or hd5' with ⟨a, xs, ds, rfl, rfl, ea, oa⟩ | hn
          case inr =>
            rw [hn]
            refine iteF ⟨_, rfl, by show 1 ≤ sizeLine; omega, fun l hl => ⟨by show 3 ≤ sizeLine; omega, fun q hq => ?_⟩⟩
            have s6 := same_upd (o := HO.lst [v]) hl
            refine ⟨p, q, _, rfl, (w5.same s6).same (same_upd hq), upd_same, well_ne (w5.same s6) hq, Nat.zero_lt_succ _, by show 3 ≤ 1000; omega, fun j x H9 hx w9 b9 => fin3 _ _ (.list [d]) s6 (.lst (hide_at1 upd_same (well_ne w5 hl)) (.cons (od_sm hd5 s6) .nil)) (lst_cap (by show 1 ≤ n + 1; omega) (fun d' hd' => ?_)) q hq j x H9 hx w9 b9⟩
            rw [List.mem_singleton.mp hd']
            exact cap_mono (by omega) hc
          obtain ⟨lc, hcc⟩ := cap_tup hc
          obtain ⟨a', xs', ea', _, oa'⟩ := od_tp hd5
          obtain rfl : a = a' := V.ref.inj ea'
          have exs : xs' = xs := by
            rename_i e2
            rw [ea] at e2
            exact (HO.tup.inj (Option.some.inj e2)).symm
          subst exs
          refine iteT ⟨_, rfl, a, _, rfl, .inr (SqT.of ea), fun l hl => ⟨by show 3 ≤ sizeLine; omega, fun q hq => ?_⟩⟩
          have s6 := same_upd (o := HO.lst xs') hl
          exact ⟨p, q, _, rfl, (w5.same s6).same (same_upd hq), upd_same, well_ne (w5.same s6) hq, Nat.zero_lt_succ _, by show 3 ≤ 1000; omega, fun j x H9 hx w9 b9 => fin3 _ _ (.list ds) s6 (.lst (hide_at1 upd_same (well_ne w5 hl)) (oa'.same (hide_but (But.same' s6)))) (lst_cap (by omega) (fun d' hd' => cap_mono (by omega) (hcc d' hd'))) q hq j x H9 hx w9 b9⟩
    · rintro H1 ⟨b1, w1, hdep, ds, rfl, hne⟩
      refine next_of ?_
      dsimp only
      have hd1 := hd.same (hide_but b1)
      obtain ⟨lc, hcc⟩ := cap_tup hc
      have fin : ∀ (z : V) (H' : Hp) (es : List PyData), But H H' p → Well H' p → Od (hide H' [p]) z (.tuple es) → es.length ≤ n + 1 → (∀ d ∈ es, capD (n + 1) d = true) → Q z H' := fun z H' es b w o l h => k z _ H' b w o (tup_cap l h)
      have hcm : ∀ d ∈ ds, capD (n + 1) d = true := fun d h => cap_mono (by omega) (hcc d h)
      obtain ⟨a, xs, rfl, ea, oa⟩ := od_tp hd1
      have el := oa.len
      have pos : 0 < ds.length := List.length_pos_iff.mpr hne
      refine ⟨_, rfl, _, rfl, a, xs, rfl, .inr (SqT.of ea), p, _, rfl, w1, by omega, by omega, fun r H2 r0 r1 w2 b2 => ⟨_, rfl, p, 7, rfl, w2, by decide, by decide, fun wy H3 _ _ w3 b3 => ?_⟩⟩
      obtain ⟨c, rfl⟩ : ∃ c : Nat, r = c := ⟨r.toNat, by omega⟩
      have b03 := b1.trans (b2.trans b3)
      have hd3 := hd.same (hide_but b03)
      have xa := dcut_a ds c
      have xb := dcut_b ds c
      have xc := dcut_c ds c
      have xd := dcut_d ds c
      refine ⟨_, _, rfl, ?_⟩
      dsimp only
      refine ⟨_, rfl, rfl, _, rfl, ite2 (fun _ => ?_) (fun _ => next_of ?_)⟩
      · refine ⟨_, rfl, _, rfl, _, rfl, sl_D w3 hd3 fun za H4 s4 o4 => ?_⟩
        refine ⟨_, rfl, _, rfl, _, _, rfl, rfl, _, rfl, ?_⟩
        dsimp only [tNoPart]
        refine sl_D (w3.same s4) (od_sm hd3 s4) fun zb H5 s5 o5 => ?_
        refine cat_D ((w3.same s4).same s5) (od_sm o4 s5) o5 (by omega) fun zc H6 s6 o6 => ?_
        have s36 := s4.trans (s5.trans s6)
        refine fin zc H6 _ (b03.trans (But.same' s36)) (w3.same s36) o6 (by rw [List.length_append]; omega) fun d h => ?_
        rcases List.mem_append.mp h with h | h
        · exact hcm d (cutD_sub h)
        · exact hcm d (cutD_sub h)
      dsimp only
      refine ⟨_, rfl, rfl, _, rfl, ite2 (fun _ => ?_) (fun _ => next_of ?_)⟩
      · refine ⟨_, rfl, _, rfl, _, rfl, sl_D w3 hd3 fun za H4 s4 o4 => ?_⟩
        refine ⟨_, rfl, _, rfl, _, rfl, _, rfl, _, _, rfl, rfl, _, rfl, sl_D (w3.same s4) (od_sm hd3 s4) fun zb H5 s5 o5 => ?_⟩
        refine cat_D ((w3.same s4).same s5) (od_sm o4 s5) o5 (by omega) fun zc H6 s6 o6 => ?_
        have s36 := s4.trans (s5.trans s6)
        refine ⟨_, rfl, _, rfl, _, rfl, ?_⟩
        dsimp only [tNoPart]
        refine sl_D (w3.same s36) (od_sm hd3 s36) fun zd H7 s7 o7 => ?_
        refine cat_D ((w3.same s36).same s7) (od_sm o6 s7) o7 (by rw [List.length_append]; omega) fun ze H8 s8 o8 => ?_
        have s38 := s36.trans (s7.trans s8)
        refine fin ze H8 _ (b03.trans (But.same' s38)) (w3.same s38) o8 (by rw [List.length_append, List.length_append]; omega) fun d h => ?_
        rcases List.mem_append.mp h with h | h
        · rcases List.mem_append.mp h with h | h
          · exact hcm d (cutD_sub h)
          · exact hcm d (cutD_sub h)
        · exact hcm d (cutD_sub h)
      dsimp only
      refine ⟨_, rfl, rfl, _, rfl, ite2 (fun _ => ?_) (fun _ => next_of ?_)⟩
      · refine ⟨_, rfl, _, rfl, _, rfl, sl_D w3 hd3 fun za H4 s4 o4 => ?_⟩
        have w4 := w3.same s4
        refine ⟨_, rfl, p, [], rfl, w4, (fun x hx => nomatch hx), fun v1 d1 H5 b5 w5 o5 c5 => ⟨by show 1 ≤ sizeLine; omega, fun q hq => ?_⟩⟩
        have s6 := same_upd (o := HO.tup [v1]) hq
        have w6 := w5.same s6
        have b06 := (b03.trans (But.same' s4)).trans (b5.trans (But.same' s6))
        refine cat_D w6 (od_sm (o4.same (hide_but b5)) s6) (od_mk w6 upd_same (.cons (od_sm o5 s6) .nil)) (by show _ + 1 ≤ 5000; omega) fun zc H7 s7 o7 => ?_
        have hd7 := hd.same (hide_but (b06.trans (But.same' s7)))
        refine ⟨_, rfl, _, rfl, _, rfl, ?_⟩
        dsimp only [tNoPart]
        refine sl_D (w6.same s7) hd7 fun zd H8 s8 o8 => ?_
        refine cat_D ((w6.same s7).same s8) (od_sm o7 s8) o8 (by rw [List.length_append]; show _ + 1 + _ ≤ 5000; omega) fun ze H9 s9 o9 => ?_
        have s69 := s7.trans (s8.trans s9)
        refine fin ze H9 _ (b06.trans (But.same' s69)) (w6.same s69) o9 (by rw [List.length_append, List.length_append]; show _ + 1 + _ ≤ n + 1; omega) fun d h => ?_
        rcases List.mem_append.mp h with h | h
        · rcases List.mem_append.mp h with h | h
          · exact hcm d (cutD_sub h)
          · rw [List.mem_singleton.mp h]
            exact cap_mono (by omega) c5
        · exact hcm d (cutD_sub h)
      dsimp only
      refine ⟨_, rfl, _, rfl, _, rfl, sl_D w3 hd3 fun za H4 s4 o4 => ?_⟩
      have w4 := w3.same s4
      obtain ⟨a4, xs4, ea4, e4, oa4⟩ := od_tp (od_sm hd3 s4)
      obtain rfl : a = a4 := V.ref.inj ea4
      have hcl : c < ds.length := by omega
      have hxl : c < xs4.length := by rw [oa4.len]; exact hcl
      obtain ⟨x, hx, ox⟩ := OdAll.get oa4 (List.getElem?_eq_getElem hcl)
      have hat : atI xs4 ((c : Nat) : Int) = some x := atI_nat hx
      refine ⟨_, rfl, _, rfl, _, rfl, a, xs4, _, x, rfl, rfl, SqT.of e4, hat, _, rfl, _, _, rfl, rfl, hsp hdep _ _ _ _ ⟨p, x, _, n, rfl, w4, ox, hcc _ (List.getElem_mem hcl), n0, n1, fun v1 d1 H5 b5 w5 o5 c5 => ⟨by show 1 ≤ sizeLine; omega, fun q hq => ?_⟩⟩⟩
      have s6 := same_upd (o := HO.tup [v1]) hq
      have w6 := w5.same s6
      have b06 := (b03.trans (But.same' s4)).trans (b5.trans (But.same' s6))
      refine cat_D w6 (od_sm (o4.same (hide_but b5)) s6) (od_mk w6 upd_same (.cons (od_sm o5 s6) .nil)) (by show _ + 1 ≤ 5000; omega) fun zc H7 s7 o7 => ?_
      have hd7 := hd.same (hide_but (b06.trans (But.same' s7)))
      refine ⟨_, rfl, _, rfl, _, _, rfl, rfl, _, rfl, ?_⟩
      dsimp only [tNoPart]
      refine sl_D (w6.same s7) hd7 fun zd H8 s8 o8 => ?_
      refine cat_D ((w6.same s7).same s8) (od_sm o7 s8) o8 (by rw [List.length_append]; show _ + 1 + _ ≤ 5000; omega) fun ze H9 s9 o9 => ?_
      have s69 := s7.trans (s8.trans s9)
      refine fin ze H9 _ (b06.trans (But.same' s69)) (w6.same s69) o9 (by rw [List.length_append, List.length_append]; show _ + 1 + _ ≤ n + 1; omega) fun d h => ?_
      rcases List.mem_append.mp h with h | h
      · rcases List.mem_append.mp h with h | h
        · exact hcm d (cutD_sub h)
        · rw [List.mem_singleton.mp h]
          exact c5
      · exact hcm d (cutD_sub h)
theorem ok_bent (T : D K mg) : FnOk P w K mg base CX0 9 T.f_l_bent T.d_l_bent ["_law_well_here", "_law_value", "_law_depth"] (spB 0) := by
  have r5 : FnOk P w K mg base CX0 4 T.f_l_bent T.d_l_bent ["_law_well_here", "_law_value", "_law_depth"] (spB 5) :=
    ok_bent1 T (Nat.le_refl 3) (sp := fun _ _ _ _ => False) ⟨fun _ _ _ _ h => h.elim, fun _ _ _ _ _ _ _ _ _ _ _ _ _ h => h.elim⟩ (fun h => absurd h (by decide))
  have r4 := ok_bent1 T (L := 4) (by decide) r5 (dep := 4) (fun _ _ _ _ _ h => h)
  have r3 := ok_bent1 T (L := 5) (by decide) r4 (dep := 3) (fun _ _ _ _ _ h => h)
  have r2 := ok_bent1 T (L := 6) (by decide) r3 (dep := 2) (fun _ _ _ _ _ h => h)
  have r1 := ok_bent1 T (L := 7) (by decide) r2 (dep := 1) (fun _ _ _ _ _ h => h)
  exact ok_bent1 T (L := 8) (by decide) r1 (dep := 0) (fun _ _ _ _ _ h => h)
end
end KP

set_option Elab.async false
set_option maxRecDepth 100000
set_option maxHeartbeats 2000000
set_option linter.all false
/-! Ours: one value told rightly. -/
namespace KP
open PySem PySem.Spec PyProof.Rows L2 Gr GxR
theorem shown_list_le (ds : List PyData) : (PyData.list ds).shown.length ≤ piled (PyData.shownAll ds) + 2 := by
  rw [PyData.shown_list]
  cases ds with
  | nil => decide +kernel
  | cons d r =>
    have h := join_length_add (PyData.shownAll (d :: r)) (by simp [PyData.shownAll])
    rw [Str.length_append, Str.length_append]
    have e1 : ("[" : Str).length = 1 := by decide +kernel
    have e2 : ("]" : Str).length = 1 := by decide +kernel
    omega
def blV (l : List Bool) : List V := l.map V.bl
def blD (l : List Bool) : PyData := .list (l.map PyData.bool)
theorem dqAll_bl {K : PySem.W.Frag} {H : Hp} : ∀ l : List Bool, DqAll K H (blV l) (l.map PyData.bool)
  | [] => .nil
  | b :: l => .cons (.bl b) (dqAll_bl l)
theorem bl_show (l : List Bool) : PyData.showableAll (l.map PyData.bool) = true ∧ PyData.depthAll (l.map PyData.bool) ≤ 2 ∧ piled (PyData.shownAll (l.map PyData.bool)) ≤ 7 * l.length := by
  induction l with
  | nil => refine ⟨rfl, by simp [PyData.depthAll], by simp [PyData.shownAll, piled_nil]⟩
  | cons b l ih =>
    have h : (PyData.bool b).shown.length ≤ 5 := by cases b <;> decide +kernel
    refine ⟨by simp [PyData.showableAll, PyData.showable, ih.1], ?_, ?_⟩
    · simp only [List.map_cons, PyData.depthAll, PyData.depth]
      have := ih.2.1
      omega
    · simp only [List.map_cons, PyData.shownAll, piled_cons, List.length_cons]
      have := ih.2.2
      omega
theorem bl_facts {l : List Bool} (h : l.length ≤ 60) : (blD l).showable = true ∧ (blD l).depth ≤ 60 ∧ (blD l).shown.length ≤ sizeLine := by
  obtain ⟨a, b, c⟩ := bl_show l
  have h1 := shown_list_le (l.map PyData.bool)
  have mz : 5000 ≤ sizeLine := by decide
  refine ⟨by unfold blD; simp [PyData.showable, a], by unfold blD; simp only [PyData.depth]; omega, by unfold blD; omega⟩
def spVR {K : PySem.W.Frag} {mg : Str → Option Value} (T : D K mg) : Sp := fun vs H Q _ => ∃ (lv v : V) (ps : List (Int × Int)) (d : PyData), vs = [lv, v] ∧ Od H lv (.tuple (ps.map prD)) ∧ Lim ps ∧ Od H v d ∧ okC d ∧ Tb (tabs T) H ∧ ∀ H', UpL (tabs T) H H' → Q (.bl true) H'
section
variable {P : Program} {w : World} {K : PySem.W.Frag} {mg : Str → Option Value} {base : Heap}
theorem sc_vr : FnScope ["_law_pairs", "_law_value", "_law_told", "_law_due"] ["_law_pairs", "_law_value"] (defScope s_l_value_right) := ⟨rfl, rfl, rfl, by decide +kernel, rfl, by decide +kernel, by decide +kernel⟩
theorem ok_vr (T : D K mg) (TB : Tabs base T) (hM : SysM K) : FnQ P w K mg base CX0 8 T.f_l_value_right T.d_l_value_right ["_law_pairs", "_law_value"] (spVR T) := by
  refine funQ T.U_l_value_right sc_vr (fun vs H Q E h => ?_) (fun cdv A outer s H vs Q E hgu hr h => ?_)
  · obtain ⟨lv, v, ps, d, rfl, _⟩ := h
    rfl
  · obtain ⟨lv, v, ps, d, rfl, hL, hl, hd, hc, hT, k⟩ := h
    have nd := sc_vr.nd
    have hu64 : (A.deeper (envOfC "_law_value_right" (defScope s_l_value_right) s.heap.objs.size T.f_l_value_right cdv)).units + 64 < cLine := hr.units
    have mz : 5000 ≤ sizeLine := by decide
    refine ⟨_, pss_cons (ps_set (i := 2) nd rfl (.inl rfl) (pe_lst (pa_cons (pe_call (ok_lims T TB) (hr.mono (by decide)) rfl T.g_are_limits T.U_are_limits.kp T.b_are_limits .nil pass0 (pa_cons (pv 1) pa_nil)) (pa_cons (pe_call (ok_hours T TB) (hr.mono (by decide)) rfl T.g_are_hours T.U_are_hours.kp T.b_are_hours .nil pass0 (pa_cons (pv 1) pa_nil)) (pa_cons (pe_call (ok_rules T TB) (hr.mono (by decide)) rfl T.g_are_rules T.U_are_rules.kp T.b_are_rules .nil pass0 (pa_cons (pv 1) pa_nil)) (pa_cons (pe_call (ok_paths T TB) (hr.mono (by decide)) rfl T.g_are_paths T.U_are_paths.kp T.b_are_paths .nil pass0 (pa_cons (pv 1) pa_nil)) (pa_cons (pe_call (ok_cnt T TB) hr rfl T.g_are_counts T.U_are_counts.kp T.b_are_counts .nil pass0 (pa_cons (pv 0) (pa_cons (pv 1) pa_nil))) pa_nil)))))))
      (pss_cons (ps_set (i := 3) nd rfl (.inl rfl) (pe_lst (pa_cons (pe_call (ok_llims T) (hr.mono (by decide)) rfl T.g_l_are_limits T.U_l_are_limits.kp T.b_l_are_limits .nil pass0 (pa_cons (pv 1) pa_nil)) (pa_cons (pe_call (ok_lhours T) (hr.mono (by decide)) rfl T.g_l_are_hours T.U_l_are_hours.kp T.b_l_are_hours .nil pass0 (pa_cons (pv 1) pa_nil)) (pa_cons (pe_call (ok_lrules T) (hr.mono (by decide)) rfl T.g_l_are_rules T.U_l_are_rules.kp T.b_l_are_rules .nil pass0 (pa_cons (pv 1) pa_nil)) (pa_cons (pe_not (pe_ix ix_tup (pe_call (ok_lrw T) (hr.mono (by decide)) rfl T.g_l_rows_wrong T.U_l_rows_wrong.kp T.b_l_rows_wrong .nil pass0 (pa_cons (pv 1) pa_nil)) pe_int (fun _ _ => rfl))) pa_nil))))))
      (pss_one (ps_ret (pe_cmpR op_eq (pe_callB (call_reprD hgu hu64 hM) (by rfl) T.repr (by decide +kernel) (pa_cons (pv 2) pa_nil)) (pe_callB (call_reprD hgu hu64 hM) (by rfl) T.repr (by decide +kernel) (pa_cons (pe_op op_cat (pv 3) (pe_lst (pa_cons (pe_call (ok_lcnt T) (hr.mono (by decide)) rfl T.g_l_are_counts T.U_l_are_counts.kp T.b_l_are_counts .nil pass0 (pa_cons (pv 0) (pa_cons (pv 1) pa_nil))) pa_nil))) pa_nil)) (nomark _))))), ?_⟩
    refine ⟨_, rfl, v, d, rfl, hd, trivial, hT, fun H1 u1 => ?_⟩
    have d1 := hd.stay (u1.stay hT)
    refine ⟨_, rfl, v, d, rfl, d1, trivial, u1.1, fun H2 t2 => ?_⟩
    have u2 := u1.trans t2
    have d2 := hd.stay (u2.stay hT)
    refine ⟨_, rfl, v, d, rfl, d2, trivial, u2.1, fun H3 t3 => ?_⟩
    have u3 := u2.trans t3
    have d3 := hd.stay (u3.stay hT)
    refine ⟨_, rfl, v, d, rfl, d3, hc, u3.1, fun H4 t4 => ?_⟩
    have u4 := u3.trans t4
    have d4 := hd.stay (u4.stay hT)
    have L4 := hL.stay (u4.stay hT)
    refine ⟨_, rfl, _, rfl, lv, v, ps, d, rfl, L4, hl, d4, u4.1, fun H5 t5 => ⟨by show 5 ≤ sizeLine; omega, fun m1 hm1 => ?_⟩⟩
    have u5 := u4.trans t5
    have sm1 := same_upd (o := HO.lst [V.bl (limsD d), V.bl (hoursD d), V.bl (rulesD d), V.bl (pathsD d), V.bl (fitD ps d)]) hm1
    have u6 := u5.trans (UpL.same u5.1 sm1)
    have e6 : upd H5 m1 (.lst [V.bl (limsD d), V.bl (hoursD d), V.bl (rulesD d), V.bl (pathsD d), V.bl (fitD ps d)]) m1 = some (.lst [V.bl (limsD d), V.bl (hoursD d), V.bl (rulesD d), V.bl (pathsD d), V.bl (fitD ps d)]) := upd_same
    have d6 := hd.stay (u6.stay hT)
    have L6 := hL.stay (u6.stay hT)
    refine gn ?_
    dsimp only
    generalize upd H5 m1 (.lst [V.bl (limsD d), V.bl (hoursD d), V.bl (rulesD d), V.bl (pathsD d), V.bl (fitD ps d)]) = H6 at *
    refine ⟨_, rfl, v, d, rfl, d6, _, rfl, v, d, rfl, d6, _, rfl, v, d, rfl, d6, _, rfl, v, d, rfl, d6, hc, fun r x H7 s7 e7 => ⟨r, _, 1, _, rfl, rfl, SqT.of e7, rfl, _, rfl, by show 4 ≤ sizeLine; omega, fun m2 hm2 => gn ?_⟩⟩
    dsimp only
    have sm2 := same_upd (o := HO.lst [V.bl (limsD d), V.bl (hoursD d), V.bl (rulesD d), V.bl (!!pathsD d)]) hm2
    have s8 := s7.trans sm2
    have e82 : upd H7 m2 (.lst [V.bl (limsD d), V.bl (hoursD d), V.bl (rulesD d), V.bl (!!pathsD d)]) m2 = some (.lst [V.bl (limsD d), V.bl (hoursD d), V.bl (rulesD d), V.bl (!!pathsD d)]) := upd_same
    rw [Bool.not_not] at e82
    simp only [Bool.not_not] at sm2 s8 e82 ⊢
    generalize upd H7 m2 (.lst [V.bl (limsD d), V.bl (hoursD d), V.bl (rulesD d), V.bl (pathsD d)]) = H8 at *
    have e81 := s8 _ _ e6
    obtain ⟨b1, b2, b3⟩ := bl_facts (l := [limsD d, hoursD d, rulesD d, pathsD d, fitD ps d]) (by show 5 ≤ 60; decide)
    refine ⟨_, rfl, _, _, rfl, .lst (SqL.of e81) (dqAll_bl [limsD d, hoursD d, rulesD d, pathsD d, fitD ps d]), b1, b2, b3, _, rfl, _, rfl, _, rfl, lv, v, ps, d, rfl, L6.same s8, hl, d6.same s8, fun H9 s9 => ⟨by show 1 ≤ sizeLine; omega, fun m3 hm3 => ?_⟩⟩
    have e92 := same_upd (o := HO.lst [V.bl (fitD ps d)]) hm3 _ _ (s9 _ _ e82)
    refine ⟨m2, m3, _, _, rfl, rfl, e92, upd_same, by show 5 ≤ sizeLine; omega, fun m4 hm4 => ?_⟩
    refine ⟨_, _, rfl, .lst (SqL.of upd_same) (dqAll_bl [limsD d, hoursD d, rulesD d, pathsD d, fitD ps d]), b1, b2, b3, rfl, ?_⟩
    show Q (.bl (decide (V.str _ = V.str _))) _
    rw [decide_eq_true rfl]
    exact k _ (u6.trans (UpL.same u6.1 (s8.trans (s9.trans ((same_upd hm3).trans (same_upd hm4))))))
end
end KP

set_option Elab.async false
set_option maxRecDepth 100000
set_option maxHeartbeats 2000000
set_option linter.all false
/-! Ours: one turn of the law. -/
namespace KP
open PySem PySem.Spec PyProof.Rows L2 Gr GxR
theorem one_facts (b : Bool) : (PyData.bool b).showable = true ∧ (PyData.bool b).depth ≤ 60 ∧ (PyData.bool b).shown.length ≤ sizeLine := by
  cases b <;> decide +kernel
def swap2 : {α : Type} → List α → List α → List α
  | _, [], [a, b] => [b, a]
  | _, _, _ => []
theorem kb_cnt {K : PySem.W.Frag} {mg : Str → Option Value} (T : D K mg) : KBinds K T.d_are_counts ["limits", "value"] ["value", "limits"] swap2 swap2 := by
  refine ⟨fun s us ws _ hl => ?_, fun {vs us zs ws} h1 h2 => ?_⟩
  · obtain ⟨oc, od, kV, doc, pm, an, cdv, ct, osl, e, lk, hcd⟩ := T.U_are_counts.ex
    match us, ws, hl with
    | [], [a, b], _ =>
      rw [e]
      exact .of_eq rfl
  · cases h1 with
    | nil =>
      match zs, ws, h2 with
      | [], _, .nil => exact .nil
      | [_], _, .cons _ .nil => exact .nil
      | [_, _], _, .cons a (.cons b .nil) => exact .cons b (.cons a .nil)
      | _ :: _ :: _ :: _, _, .cons _ (.cons _ (.cons _ _)) => exact .nil
    | cons a b => exact .nil
def Mv {K : PySem.W.Frag} {mg : Str → Option Value} (T : D K mg) (p : Addr) (H H' : Hp) : Prop := (∀ b o, H b = some o → b ≠ p → (∀ ps, o ≠ .tbl ps) → H' b = some o) ∧ Well H' p ∧ Tb (tabs T) H'
def spRight {K : PySem.W.Frag} {mg : Str → Option Value} (T : D K mg) : Sp := fun vs H Q _ => ∃ p : Addr, vs = [.ref p] ∧ Well H p ∧ Tb (tabs T) H ∧ ∀ H', Mv T p H H' → Q (.bl true) H'
section
variable {K : PySem.W.Frag} {mg : Str → Option Value} {T : D K mg} {p : Addr} {H H1 H2 : Hp}
theorem Mv.refl (w : Well H p) (h : Tb (tabs T) H) : Mv T p H H := ⟨fun _ _ e _ _ => e, w, h⟩
theorem Mv.trans (a : Mv T p H H1) (b : Mv T p H1 H2) : Mv T p H H2 := ⟨fun x o e n m => b.1 x o (a.1 x o e n m) n m, b.2⟩
theorem tab_but {q : Addr} (w : Well H p) (h : TabG H q) (b : But H H1 p) : TabG H1 q := by
  obtain ⟨ps, e, t⟩ := h
  refine ⟨ps, b _ _ e fun z => ?_, t⟩
  obtain ⟨_, _, _, ew⟩ := w
  rw [z, ew] at e
  cases e
theorem Mv.but (w : Well H p) (h : Tb (tabs T) H) (b : But H H1 p) (w1 : Well H1 p) : Mv T p H H1 := ⟨fun x o e n _ => b x o e n, w1, fun q hq => tab_but w (h q hq) b⟩
theorem Mv.up (w : Well H p) (h : Tb (tabs T) H) (u : UpL (tabs T) H H1) : Mv T p H H1 := by
  have s := u.stay h
  refine ⟨fun x o e _ m => s x o e m, ?_, u.1⟩
  obtain ⟨a, b, c, e⟩ := w
  exact ⟨a, b, c, s _ _ e (fun _ q => nomatch q)⟩
theorem Mv.same (w : Well H p) (h : Tb (tabs T) H) (s : Same H H1) : Mv T p H H1 := Mv.up w h (UpL.same h s)
theorem Mv.lst (m : Mv T p H H1) {a : Addr} {xs : List V} (e : H a = some (.lst xs)) (n : a ≠ p) : H1 a = some (.lst xs) := m.1 _ _ e n fun _ q => nomatch q
theorem Mv.hid (m : Mv T p H H1) {v : V} {d : PyData} (o : Od (hide H [p]) v d) : Od (hide H1 [p]) v d := by
  refine o.stay fun a x e n => ?_
  unfold hide at e ⊢
  split at e
  · cases e
  · rename_i z
    rw [if_neg z]
    exact m.1 a x e (fun q => z (by rw [q]; exact List.mem_cons_self)) n
/-- one more step by a call that leaves all but the well -/
theorem Mv.b (m : Mv T p H H1) (b : But H1 H2 p) (w : Well H2 p) : Mv T p H H2 := m.trans (Mv.but m.2.1 m.2.2 b w)
theorem Mv.s (m : Mv T p H H1) (s : Same H1 H2) : Mv T p H H2 := m.trans (Mv.same m.2.1 m.2.2 s)
end
theorem cap_ok {d : PyData} {n : Nat} (h : capD n d = true) (l : n ≤ 1000) : okC d := cap_mono l h
theorem lim_cap {ps : List (Int × Int)} (h : Lim ps) : capD 12 (.tuple (ps.map prD)) = true :=
  tup_cap (by rw [List.length_map]; have := h.1; omega) fun d hd => by
    obtain ⟨q, _, rfl⟩ := List.mem_map.mp hd
    rfl
section
variable {P : Program} {w : World} {K : PySem.W.Frag} {mg : Str → Option Value} {base : Heap}
theorem sc_right : FnScope ["_law_well_here", "_law_pairs", "_law_digits", "_law_listed", "_law_values", "_law_value", "_law_bent_here", "_law_again", "_law_each"] ["_law_well_here"] (defScope s_l_right) := ⟨rfl, rfl, rfl, by decide +kernel, rfl, by decide +kernel, by decide +kernel⟩
theorem ok_l_right (T : D K mg) (TB : Tabs base T) (hM : SysM K) : FnQ P w K mg base CX0 10 T.f_l_right T.d_l_right ["_law_well_here"] (spRight T) := by
  refine funQ T.U_l_right sc_right (fun vs H Q E h => ?_) (fun cdv A outer s H vs Q E hgu hr h => ?_)
  · obtain ⟨p, rfl, _⟩ := h
    rfl
  · obtain ⟨p, rfl, hp, hT, k⟩ := h
    have nd := sc_right.nd
    have hu64 : (A.deeper (envOfC "_law_right" (defScope s_l_right) s.heap.objs.size T.f_l_right cdv)).units + 64 < cLine := hr.units
    have mz : 5000 ≤ sizeLine := by decide
    have GV : FnQ P w K mg base CX0 8 T.f_l_value_right T.d_l_value_right ["_law_pairs", "_law_value"] (spVR T) := ok_vr T TB hM
    refine ⟨_, pss_cons (ps_par (i := 1) (j := 2) (by rfl) nd rfl rfl (by decide) rfl rfl (pa_cons (pe_call (ok_slim T) (hr.mono (by decide)) rfl T.g_l_some_limits T.U_l_some_limits.kp T.b_l_some_limits .nil pass0 (pa_cons (pv 0) (pa_cons pe_int (pa_cons pe_int pa_nil)))) (pa_cons (pe_call (ok_shrs T) (hr.mono (by decide)) rfl T.g_l_some_hours T.U_l_some_hours.kp T.b_l_some_hours .nil pass0 (pa_cons (pv 0) (pa_cons pe_int pa_nil))) pa_nil)) (by rfl))
      (pss_cons (ps_set (i := 3) nd rfl (.inl rfl) (pe_call (ok_srows T) (hr.mono (by decide)) rfl T.g_l_some_rows T.U_l_some_rows.kp T.b_l_some_rows .nil pass0 (pa_cons (pv 0) (pa_cons (pe_call (ok_l_alphabet T) (hr.mono (by decide)) rfl T.g_l_alphabet T.U_l_alphabet.kp T.b_l_alphabet .nil pass0 (pa_cons (pv 0) pa_nil)) (pa_cons pe_int pa_nil)))))
      (pss_cons (ps_set (i := 4) nd rfl (.inl rfl) (pe_lst (pa_cons (pv 1) (pa_cons (pv 2) (pa_cons (pe_tup (pa_cons (pv 1) (pa_cons (pv 2) pa_nil))) (pa_cons (pv 3) (pa_cons (pe_call (ok_scnt T) (hr.mono (by decide)) rfl T.g_l_some_counts T.U_l_some_counts.kp T.b_l_some_counts .nil pass0 (pa_cons (pv 0) (pa_cons (pv 1) pa_nil))) (pa_cons (pe_call (ok_odd T) (hr.mono (by decide)) rfl T.g_l_odd T.U_l_odd.kp T.b_l_odd .nil pass0 (pa_cons (pv 0) pa_nil)) pa_nil))))))))
      (pss_cons (ps_for PassesOwn.never rfl (pi_list (pv 4)) (pg_name (i := 5) nd rfl (.inl rfl))
        (pss_cons (ps_set (i := 6) nd rfl (.inl rfl) (pe_call (ok_bent T) hr rfl T.g_l_bent T.U_l_bent.kp T.b_l_bent .nil pass0 (pa_cons (pv 0) (pa_cons (pv 5) (pa_cons pe_int pa_nil)))))
        (pss_cons (ps_set (i := 7) nd rfl (.inl rfl) (pe_call (ok_bent T) hr rfl T.g_l_bent T.U_l_bent.kp T.b_l_bent .nil pass0 (pa_cons (pv 0) (pa_cons (pv 6) (pa_cons pe_int pa_nil)))))
        (pss_one (ps_for PassesOwn.never rfl (pi_list (pe_lst (pa_cons (pv 5) (pa_cons (pv 6) (pa_cons (pv 7) pa_nil))))) (pg_name (i := 8) nd rfl (.inl rfl))
          (pss_one (ps_if (pt_not (pt_val (pe_callQ hgu GV (hr.mono (by decide)) rfl T.g_l_value_right T.U_l_value_right.kp T.b_l_value_right .nil pass0 (pa_cons (pv 1) (pa_cons (pv 8) pa_nil)))))
            (pss_one (ps_ret pe_bl))
            (pss_nil))))))))
      (pss_one (ps_ret (pe_cmpR op_eq (pe_callB (call_reprD hgu hu64 hM) (by rfl) T.repr (by decide +kernel) (pa_cons (pe_callK0 (ok_cnt T TB) (hr.mono (by decide)) rfl T.g_are_counts T.U_are_counts.kp (kb_cnt T) pass0 (pk_cons (pe_ix ix_seq (pv 4) pe_int (fun _ _ => rfl)) (pk_cons (pv 1) pk_nil))) pa_nil)) (pe_callB (call_reprD hgu hu64 hM) (by rfl) T.repr (by decide +kernel) (pa_cons (pe_call (ok_lcnt T) (hr.mono (by decide)) rfl T.g_l_are_counts T.U_l_are_counts.kp T.b_l_are_counts .nil pass0 (pa_cons (pv 1) (pa_cons (pe_ix ix_seq (pv 4) pe_int (fun _ _ => rfl)) pa_nil))) pa_nil)) (nomark _))))))), ?_⟩
    refine ⟨_, rfl, p, 6, 12, rfl, hp, by decide, by decide, by decide, by decide, fun lv dl H1 b1 w1 o1 ⟨ps, ed, hl⟩ => ?_⟩
    subst ed
    have m1 := Mv.but hp hT b1 w1
    refine ⟨_, rfl, p, 12, rfl, w1, by decide, by decide, fun hv dh H2 b2 w2 o2 c2 => ⟨_, _, rfl, ?_⟩⟩
    have m2 := m1.b b2 w2
    have oL2 := o1.same (hide_but b2)
    dsimp only
    refine ⟨_, rfl, _, rfl, p, rfl, w2, fun sg xs H3 hq b3 w3 e3 x0 x1 xo => ⟨p, sg, xs, rfl, w3, e3, well_ne w2 hq, x0, by omega, xo, fun rv dr H4 b4 w4 o4 c4 => gn ?_⟩⟩
    have m4 := (m2.b b3 w3).b b4 w4
    have b24 := b3.trans b4
    have oL4 := oL2.same (hide_but b24)
    have oH4 := o2.same (hide_but b24)
    dsimp only
    refine ⟨_, rfl, _, rfl, _, rfl, _, rfl, by show 2 ≤ sizeLine; omega, fun t5 ht5 => ?_⟩
    have s5 := same_upd (o := HO.tup [lv, hv]) ht5
    have w5 := w4.same s5
    have oT5 : Od (hide (upd H4 t5 (.tup [lv, hv])) [p]) (.ref t5) (.tuple [.tuple (ps.map prD), dh]) := od_mk w5 upd_same (.cons (od_sm oL4 s5) (.cons (od_sm oH4 s5) .nil))
    have oL5 := od_sm oL4 s5
    have oH5 := od_sm oH4 s5
    have oR5 := od_sm o4 s5
    have m5 := m4.s s5
    generalize upd H4 t5 (.tup [lv, hv]) = H5 at *
    refine ⟨_, rfl, _, rfl, _, rfl, p, lv, ps, rfl, w5, oL5, hl, fun cv dc H6 b6 w6 o6 c6 => ⟨_, rfl, p, [], rfl, w6, (fun x hx => nomatch hx), fun ov do' H7 b7 w7 o7 c7 => ⟨by show 6 ≤ sizeLine; omega, fun D hD => gn ?_⟩⟩⟩
    have b57 := b6.trans b7
    have sD := same_upd (o := HO.lst [lv, hv, V.ref t5, rv, cv, ov]) hD
    have m8 := (m5.b b57 w7).s sD
    have nDp := well_ne w7 hD
    have oL8 := od_sm (oL5.same (hide_but b57)) sD
    have oH8 := od_sm (oH5.same (hide_but b57)) sD
    have oR8 := od_sm (oR5.same (hide_but b57)) sD
    have oT8 := od_sm (oT5.same (hide_but b57)) sD
    have oC8 := od_sm (o6.same (hide_but b7)) sD
    have oO8 := od_sm o7 sD
    have eD : upd H7 D (.lst [lv, hv, V.ref t5, rv, cv, ov]) D = some (.lst [lv, hv, V.ref t5, rv, cv, ov]) := upd_same
    generalize upd H7 D (.lst [lv, hv, V.ref t5, rv, cv, ov]) = H8 at *
    dsimp only
    have all8 : ∀ x ∈ [lv, hv, V.ref t5, rv, cv, ov], ∃ d, capD 12 d = true ∧ Od (hide H8 [p]) x d := by
      intro x hx
      simp only [List.mem_cons, List.not_mem_nil, or_false] at hx
      rcases hx with rfl | rfl | rfl | rfl | rfl | rfl
      · exact ⟨_, lim_cap hl, oL8⟩
      · exact ⟨_, c2, oH8⟩
      · refine ⟨_, tup_cap (by show 2 ≤ 12; decide) (fun d hd => ?_), oT8⟩
        simp only [List.mem_cons, List.not_mem_nil, or_false] at hd
        rcases hd with rfl | rfl
        · exact lim_cap hl
        · exact c2
      · exact ⟨_, c4, oR8⟩
      · exact ⟨_, c6, oC8⟩
      · exact ⟨_, c7, oO8⟩
    refine ⟨_, rfl, D, rfl, ⟨_, SqL.of eD⟩, for_list (K := K) (a := D) (xs := [lv, hv, V.ref t5, rv, cv, ov]) (fun i σ HC => Mv T p H8 HC ∧ ∃ v5 v6 v7 v8 : Option V, σ = [some (.ref p), some lv, some hv, some rv, some (.ref D), v5, v6, v7, v8]) ⟨Mv.refl m8.2.1 m8.2.2, _, _, _, _, rfl⟩ (fun i σ HC _ q => SqL.of (q.1.lst eD nDp)) ?_ ?_⟩
    · rintro i x σ HC hx ⟨mv, v5, v6, v7, v8, rfl⟩
      obtain ⟨d, cd, od⟩ := all8 x (List.mem_of_getElem? hx)
      have odC := mv.hid od
      refine ⟨_, rfl, _, rfl, p, x, d, 12, rfl, mv.2.1, odC, cd, by decide, by decide, fun y dy HE bE wE oE cE => gn ?_⟩
      have mE := mv.b bE wE
      dsimp only
      refine ⟨_, rfl, _, rfl, p, y, dy, 13, rfl, wE, oE, cE, by decide, by decide, fun z dz HF bF wF oF cF => gn ?_⟩
      have mF := mE.b bF wF
      dsimp only
      refine ⟨_, rfl, _, rfl, _, rfl, by show 3 ≤ sizeLine; omega, fun l hl' => ?_⟩
      have sl := same_upd (o := HO.lst [x, y, z]) hl'
      have el : upd HF l (.lst [x, y, z]) l = some (.lst [x, y, z]) := upd_same
      have nlp := well_ne wF hl'
      have mG := mF.s sl
      have oxG := od_sm ((odC.same (hide_but bE)).same (hide_but bF)) sl
      have oyG := od_sm (oE.same (hide_but bF)) sl
      have ozG := od_sm oF sl
      generalize upd HF l (.lst [x, y, z]) = HG at *
      have all3 : ∀ u ∈ [x, y, z], ∃ d, okC d ∧ Od (hide HG [p]) u d := by
        intro u hu
        simp only [List.mem_cons, List.not_mem_nil, or_false] at hu
        rcases hu with rfl | rfl | rfl
        · exact ⟨_, cap_ok cd (by decide), oxG⟩
        · exact ⟨_, cap_ok cE (by decide), oyG⟩
        · exact ⟨_, cap_ok cF (by decide), ozG⟩
      refine ⟨l, rfl, ⟨_, SqL.of el⟩, for_list (K := K) (a := l) (xs := [x, y, z]) (fun j σ HH => Mv T p HG HH ∧ ∃ v8 : Option V, σ = [some (.ref p), some lv, some hv, some rv, some (.ref D), some x, some y, some z, v8]) ⟨Mv.refl mG.2.1 mG.2.2, _, rfl⟩ (fun j σ HH _ q => SqL.of (q.1.lst el nlp)) ?_ ?_⟩
      · rintro j u σ HH hu ⟨mH, v8, rfl⟩
        obtain ⟨d', okd, odu⟩ := all3 u (List.mem_of_getElem? hu)
        have oLH := (mH.hid (mG.hid oL8)).same hide_sub
        refine ⟨_, rfl, _, rfl, lv, u, ps, d', rfl, ?_, hl, (mH.hid odu).same hide_sub, okd, mH.2.2, fun HI uI => ⟨_, rfl, iteF ⟨mH.trans (Mv.up mH.2.1 mH.2.2 uI), _, rfl⟩⟩⟩
        exact oLH
      · rintro σ HH ⟨mH, v8, rfl⟩
        exact ⟨mG.trans mH, _, _, _, _, rfl⟩
    · rintro σ HC ⟨mv, v5, v6, v7, v8, rfl⟩
      have eDC := mv.lst eD nDp
      have oLC := (mv.hid oL8).same hide_sub
      have oCC := (mv.hid oC8).same hide_sub
      obtain ⟨b1, b2, b3⟩ := one_facts (fitD ps dc)
      refine ⟨_, rfl, .inl ⟨D, _, 4, cv, rfl, rfl, SqL.of eDC, rfl, _, rfl, lv, cv, ps, dc, rfl, oLC, hl, oCC, mv.2.2, fun HI uI => ?_⟩⟩
      have mI := mv.trans (Mv.up mv.2.1 mv.2.2 uI)
      have eDI := mI.lst eD nDp
      refine ⟨_, _, rfl, .bl _, b1, b2, b3, _, rfl, _, rfl, .inl ⟨D, _, 4, cv, rfl, rfl, SqL.of eDI, rfl, lv, cv, ps, dc, rfl, (mI.hid oL8).same hide_sub, hl, (mI.hid oC8).same hide_sub, fun HJ sJ => ?_⟩⟩
      refine ⟨_, _, rfl, .bl _, b1, b2, b3, rfl, ?_⟩
      show Q (.bl (decide (V.str _ = V.str _))) _
      rw [decide_eq_true rfl]
      exact k _ (m8.trans (mI.s sJ))
end
end KP

set_option Elab.async false
set_option maxRecDepth 100000
set_option maxHeartbeats 4000000
set_option linter.all false
/-! Ours: the law. -/
namespace KP
open PySem PySem.Spec PyProof.Rows L2 Gr GxR
theorem sql_stay {K : PySem.W.Frag} {H H' : Hp} {a : Addr} {xs : List V} (s : Stay H H') (h : SqL K H a xs) : SqL K H' a xs := by
  rcases h with (h | ⟨o, h⟩) | h
  · exact .inl (.inl (s _ _ h fun _ q => nomatch q))
  · exact .inl (.inr ⟨o, s _ _ h fun _ q => nomatch q⟩)
  · exact .inr h
theorem all_true : ∀ n, (List.replicate n true).all id = true
  | 0 => rfl
  | n + 1 => by
    rw [List.replicate_succ, List.all_cons, all_true n]
    rfl
def spLaw {K : PySem.W.Frag} {mg : Str → Option Value} (T : D K mg) : Sp := fun vs H Q _ => ∃ (a : Addr) (ns : List Int), vs = [.ref a] ∧ SqL K H a (ns.map V.int) ∧ ns.length ≤ 63 ∧ Tb (tabs T) H ∧ ∀ H', Q (.bl true) H'
section
variable {P : Program} {w : World} {K : PySem.W.Frag} {mg : Str → Option Value} {base : Heap}
theorem sc_law : FnScope ["_law_script", "_law_turn"] ["_law_script"] (defScope s_law) := ⟨rfl, rfl, rfl, by decide +kernel, rfl, by decide +kernel, by decide +kernel⟩
theorem ok_law (T : D K mg) (TB : Tabs base T) (hM : SysM K) : FnQ P w K mg base CX0 11 T.f_law T.d_law ["_law_script"] (spLaw T) := by
  refine funQ T.U_law sc_law (fun vs H Q E h => ?_) (fun cdv A outer s H vs Q E hgu hr h => ?_)
  · obtain ⟨a, ns, rfl, _⟩ := h
    rfl
  · obtain ⟨a, ns, rfl, hS, hl, hT, k⟩ := h
    have nd := sc_law.nd
    have GR : FnQ P w K mg base CX0 10 T.f_l_right T.d_l_right ["_law_well_here"] (spRight T) := ok_l_right T TB hM
    refine ⟨_, pss_one (ps_ret (pe_callB (cr_all rfl) (by rfl) T.all boot_all (pa_cons (pe_lc (own := [("_law_turn", 1)]) (g := gName 1) (tt := tYes) rfl nd (pi_range1 rfl T.range (pa_cons (pe_callB (call_max2 rfl) (by rfl) T.max boot_max (pa_cons pe_int (pa_cons (pe_callB (call_min2 rfl) (by rfl) T.min boot_min (pa_cons (pe_callB call_len_seq (by rfl) T.len PySem.boot_len (pa_cons (pv 0) pa_nil)) (pa_cons pe_int pa_nil))) pa_nil))) pa_nil)) (blkOk_by (N := ["_law_script", "_law_turn"]) (sc := defScope s_law) (by decide +kernel)) (fun _ _ _ _ _ => pg_name (i := 1) nd rfl (.inl rfl)) (fun _ _ _ _ _ => pts_nil) (fun _ _ _ _ _ => pe_callQ hgu GR hr rfl T.g_l_right T.U_l_right.kp T.b_l_right .nil pass0 (pa_cons (pe_call (ok_l_well T) (hr.mono (by decide)) rfl T.g_l_well T.U_l_well.kp T.b_l_well .nil pass0 (pa_cons (pv 0) (pa_cons (pv 1) pa_nil))) pa_nil))) pa_nil))), ?_⟩
    refine ⟨_, rfl, a, _, rfl, .inl hS, _, _, rfl, _, _, rfl, _, rfl, ?_, ?_, fun D hD => lc_range (n := _) (fun n H2 => Stay H H2 ∧ Tb (tabs T) H2 ∧ H2 D = some (.lst ((List.replicate n true).map V.bl))) ⟨fun x o e _ => same_upd hD x o e, hT.same (same_upd hD), upd_same⟩ ?_ ?_⟩
    · split <;> split <;> omega
    · split <;> split <;> omega
    · rintro n H2 hn ⟨s2, t2, hDn⟩
      refine ⟨wipe1, ?_⟩
      unfold tYes
      dsimp only
      rw [if_pos rfl]
      have hn6 : n < 63 := by
        refine Nat.lt_of_lt_of_le hn ?_
        split <;> split <;> omega
      refine ⟨_, rfl, _, rfl, a, ns, (n : Int), ?_, sql_stay s2 hS, by omega, by omega, fun q H3 hq hw s3 => ⟨q, rfl, hw, t2.same s3, fun H4 mv => ?_⟩⟩
      · rw [Int.zero_add]
        rfl
      · have s4 : Stay H2 H4 := fun b o e m => mv.1 b o (s3 b o e) (ne_of_none e hq) m
        refine ⟨_, s4 _ _ hDn (fun _ q => nomatch q), ?_, ?_, ?_, ?_⟩
        · rw [List.length_map, List.length_replicate, sizeLine_eq]
          omega
        · intro b o e m
          rw [upd_ne (ne_of_none e hD)]
          exact s4 _ _ (s2 _ _ e m) m
        · have nD : ∀ P : Addr, TabG H4 P → D ≠ P := fun P ⟨ps, e, _⟩ z => by
            rw [← z, s4 _ _ hDn (fun _ q => nomatch q)] at e
            cases e
          exact fun P hP => let ⟨ps, e, x⟩ := mv.2.2 P hP; ⟨ps, (upd_ne (Ne.symm (nD _ ⟨ps, e, x⟩))).trans e, x⟩
        · rw [upd_same, List.replicate_succ', List.map_append]
          rfl
    · rintro H2 ⟨s2, t2, hDn⟩
      refine ⟨D, _, rfl, SqL.of hDn, ?_⟩
      rw [all_true]
      exact k _
end
end KP

set_option Elab.async false
set_option maxRecDepth 100000
set_option maxHeartbeats 8000000
set_option linter.all false
namespace KP
open PySem PySem.Spec PyProof.Rows L2 Gr GxR PySem.W
/-! what is asked of the written part -/
def hasRef : Option Value → Addr → Bool
  | some (.ref a), q => a == q
  | _, _ => false
def isStrV : Value → Bool
  | .str _ _ => true
  | _ => false
def isIntV : Value → Bool
  | .int _ _ => true
  | _ => false
def isBoolV : Value → Bool
  | .bool _ => true
  | _ => false
def hdB (K : Frag) (c q : Addr) : Bool := match K.lookup c with
  | some ⟨.type n, _, .fields vs, _⟩ => n == "code" && (hasRef vs[11]? q && (isStrV (vs.getD 18 .none) && (isIntV (vs.getD 7 .none) && (isBoolV (vs.getD 9 .none) && isIntV (vs.getD 10 .none)))))
  | _ => false
theorem hdB_ok {K : Frag} {h : Heap} {c q : Addr} (X : K.In h) (n : c ≠ q) (e : hdB K c q = true) : CodeHd h c q := by
  unfold hdB at e
  split at e
  · rename_i nm od vs sl hk
    simp only [Bool.and_eq_true, beq_iff_eq] at e
    obtain ⟨rfl, e1, e2, e3, e4, e5⟩ := e
    have r : vs[11]? = some (.ref q) := by
      cases hv : vs[11]? with
      | none => rw [hv] at e1; cases e1
      | some v =>
        rw [hv] at e1
        cases v with
        | ref a =>
          have : (a == q) = true := e1
          rw [beq_iff_eq.mp this]
        | _ => cases e1
    have r2 : vs.getD 11 .none = .ref q := by rw [Array.getD_eq_getD_getElem?, r]; rfl
    generalize h18 : vs.getD 18 .none = v18 at e2
    generalize h7 : vs.getD 7 .none = v7 at e3
    generalize h9 : vs.getD 9 .none = v9 at e4
    generalize h10 : vs.getD 10 .none = v10 at e5
    cases v18 <;> first | cases e2 | skip
    cases v7 <;> first | cases e3 | skip
    cases v9 <;> first | cases e4 | skip
    cases v10 <;> first | cases e5 | skip
    exact ⟨_, vs, _, _, _, _, _, _, _, X _ _ hk, rfl, rfl, r, r2, h18, h7, h9, h10, n⟩
  · cases e
theorem rangeOf {k : Nat} {t : Nat → Bool} (h : (List.range k).all t = true) {n : Nat} (hn : n < k) : t n = true := List.all_eq_true.mp h n (List.mem_range.mpr hn)
def bis : List Str := ("abs" : Str) :: ("all" : Str) :: ("bool" : Str) :: ("divmod" : Str) :: ("enumerate" : Str) :: ("int" : Str) :: ("isinstance" : Str) :: ("len" : Str) :: ("list" : Str) :: ("max" : Str) :: ("min" : Str) :: ("range" : Str) :: ("repr" : Str) :: ("str" : Str) :: ("sum" : Str) :: ("tuple" : Str) :: []
def chkN (K : Frag) : Bool := (List.range 16).all fun n => decide (nsIn K mainGlobals (bis.getD n "") = some none)
theorem nameN {K : Frag} {h : Heap} {mg : Str → Option Value} (X : K.In h) (G : h.Ns mainGlobals mg) (c : chkN K = true) (n : Nat) (hn : n < 16) : mg (bis.getD n "") = none := mg_none_of X G (of_decide_eq_true (rangeOf c hn))
def fnm : List Str := ("is_whole" : Str) :: ("is_between" : Str) :: ("is_tuple" : Str) :: ("is_limit" : Str) :: ("are_limits" : Str) :: ("are_hours" : Str) :: ("are_rules" : Str) :: ("check_limits" : Str) :: ("is_pattern" : Str) :: ("is_path_row" : Str) :: ("fault_in_paths" : Str) :: ("are_paths" : Str) :: ("span_of" : Str) :: ("fit" : Str) :: ("are_counts" : Str) :: ("_law_well" : Str) :: ("_law_pick" : Str) :: ("_law_one" : Str) :: ("_law_signs" : Str) :: ("_law_alphabet" : Str) :: ("_law_is_whole" : Str) :: ("_law_odd" : Str) :: ("_law_bent" : Str) :: ("_law_is_pattern" : Str) :: ("_law_rows_wrong" : Str) :: ("_law_are_limits" : Str) :: ("_law_are_hours" : Str) :: ("_law_are_rules" : Str) :: ("_law_some_pattern" : Str) :: ("_law_some_rows" : Str) :: ("_law_some_limits" : Str) :: ("_law_some_hours" : Str) :: ("_law_are_counts" : Str) :: ("_law_some_counts" : Str) :: ("_law_value_right" : Str) :: ("_law_right" : Str) :: ("law" : Str) :: []
def fad : List Addr := [53, 60, 67, 74, 81, 88, 95, 102, 109, 116, 123, 130, 135, 140, 147, 154, 161, 168, 175, 180, 187, 194, 201, 206, 213, 220, 227, 234, 241, 248, 253, 258, 263, 268, 275, 282, 287]
def chkF (K : Frag) : Bool := (List.range 37).all fun n => decide (nsIn K mainGlobals (fnm.getD n "") = some (some (.ref (fad.getD n 0)))) && keepIn K (.ref (fad.getD n 0))
theorem nameF {K : Frag} {h : Heap} {mg : Str → Option Value} (X : K.In h) (G : h.Ns mainGlobals mg) (c : chkF K = true) (n : Nat) (hn : n < 37) : mg (fnm.getD n "") = some (.ref (fad.getD n 0)) ∧ keepIn K (.ref (fad.getD n 0)) = true := by
  have q := rangeOf c hn
  simp only [Bool.and_eq_true, decide_eq_true_eq] at q
  exact ⟨mg_of X G q.1, q.2⟩
def chkS (K : Frag) : Bool := match K.lookup sysModules with
  | some ⟨_, _, .dict _ _, _⟩ => true
  | _ => false
theorem sysM_of {K : Frag} (h : chkS K = true) : SysM K := by
  unfold chkS at h
  split at h
  · rename_i es n _ q
    exact ⟨_, es, n, q, rfl⟩
  · cases h
theorem fun_mkS {K K0 : Frag} {x qual : Str} {st : Stmt} {f : Addr} {oc : Value} {od an : Option Addr} {osl : Array (Option Value)} {kV doc pm cdv ct : Value} (hK : ∀ b, b ≠ sysModules → K.lookup b = K0.lookup b) (ne : f ≠ sysModules)
    (l : K0.lookup f = some ⟨oc, od, .func (fnOf x qual (defArgs st) (defBody st) (defScope st) .none kV doc pm an cdv ct), osl⟩) (c : codeIn K cdv qual = true) : ∃ fd, keepIn K (.ref f) = true → Fun K x qual st f fd :=
  ⟨_, fun k => fun_mk ((hK _ ne).trans l) c k⟩
theorem fun_mkC {K K0 : Frag} {x qual : Str} {st : Stmt} {f c : Addr} {oc : Value} {od an : Option Addr} {osl : Array (Option Value)} {kV doc pm ct : Value} (hK : ∀ b, b ≠ sysModules → K.lookup b = K0.lookup b) (ne : f ≠ sysModules)
    (l : K0.lookup f = some ⟨oc, od, .func (fnOf x qual (defArgs st) (defBody st) (defScope st) .none kV doc pm an (.ref c) ct), osl⟩) (cc : codeIn K (.ref c) qual = true) : ∃ fd, keepIn K (.ref f) = true → FunC K x qual st f fd c :=
  ⟨_, fun k => ⟨⟨oc, od, kV, doc, pm, an, ct, osl, rfl, (hK _ ne).trans l, cc⟩, k⟩⟩
def chkInt (K : Frag) (x : Str) (n : Int) : Bool := match nsIn K mainGlobals x with
  | some (some (.int m _)) => m == n
  | _ => false
def chkStr (K : Frag) (x : Str) (n : Str) : Bool := match nsIn K mainGlobals x with
  | some (some (.str m _)) => m == n
  | _ => false
theorem int_of {K : Frag} {x : Str} {n : Int} (h : chkInt K x n = true) : ∃ t, nsIn K mainGlobals x = some (some (.int n t)) := by
  unfold chkInt at h
  split at h
  · rename_i m t q
    exact ⟨t, by rw [q, beq_iff_eq.mp h]⟩
  · cases h
theorem str_of {K : Frag} {x : Str} {n : Str} (h : chkStr K x n = true) : ∃ t, nsIn K mainGlobals x = some (some (.str n t)) := by
  unfold chkStr at h
  split at h
  · rename_i m t q
    exact ⟨t, by rw [q, beq_iff_eq.mp h]⟩
  · cases h
/-- all that is asked of the written part -/
structure Facts (K : Frag) : Prop where
  n : chkN K = true
  f : chkF K = true
  s : chkS K = true
  k0 : chkInt K "MOST_ASKS" 6 = true
  k1 : chkInt K "WIDEST" 12 = true
  k2 : chkInt K "MOST_PAIRS" 4 = true
  k3 : chkStr K "SIGNS" "-./0123456789_abcdefghijklmnopqrstuvwxyz" = true
  k4 : chkInt K "LONGEST_PATTERN" 12 = true
  k5 : chkInt K "MOST_STARS" 4 = true
  k6 : chkInt K "MOST_PATHS" 6 = true
  d0 : ∃ fd, keepIn K (.ref 53) = true → Fun K "is_whole" "is_whole" s_is_whole 53 fd
  d1 : ∃ fd, keepIn K (.ref 60) = true → Fun K "is_between" "is_between" s_is_between 60 fd
  d2 : ∃ fd, keepIn K (.ref 67) = true → Fun K "is_tuple" "is_tuple" s_is_tuple 67 fd
  d3 : ∃ fd, keepIn K (.ref 74) = true → Fun K "is_limit" "is_limit" s_is_limit 74 fd
  d4 : ∃ fd, keepIn K (.ref 81) = true → FunC K "are_limits" "are_limits" s_are_limits 81 fd 80
  t4 : hdB K 80 76 = true
  o4 : (K.lookup 76).isNone = true
  d5 : ∃ fd, keepIn K (.ref 88) = true → FunC K "are_hours" "are_hours" s_are_hours 88 fd 87
  t5 : hdB K 87 83 = true
  o5 : (K.lookup 83).isNone = true
  d6 : ∃ fd, keepIn K (.ref 95) = true → Fun K "are_rules" "are_rules" s_are_rules 95 fd
  d7 : ∃ fd, keepIn K (.ref 102) = true → Fun K "check_limits" "check_limits" s_check_limits 102 fd
  d8 : ∃ fd, keepIn K (.ref 109) = true → FunC K "is_pattern" "is_pattern" s_is_pattern 109 fd 108
  t8 : hdB K 108 104 = true
  o8 : (K.lookup 104).isNone = true
  d9 : ∃ fd, keepIn K (.ref 116) = true → Fun K "is_path_row" "is_path_row" s_is_path_row 116 fd
  d10 : ∃ fd, keepIn K (.ref 123) = true → Fun K "fault_in_paths" "fault_in_paths" s_fault_in_paths 123 fd
  d11 : ∃ fd, keepIn K (.ref 130) = true → Fun K "are_paths" "are_paths" s_are_paths 130 fd
  d12 : ∃ fd, keepIn K (.ref 135) = true → Fun K "span_of" "span_of" s_span_of 135 fd
  d13 : ∃ fd, keepIn K (.ref 140) = true → FunC K "fit" "fit" s_fit 140 fd 139
  t13 : hdB K 139 137 = true
  o13 : (K.lookup 137).isNone = true
  d14 : ∃ fd, keepIn K (.ref 147) = true → Fun K "are_counts" "are_counts" s_are_counts 147 fd
  d15 : ∃ fd, keepIn K (.ref 154) = true → Fun K "_law_well" "_law_well" s_l_well 154 fd
  d16 : ∃ fd, keepIn K (.ref 161) = true → Fun K "_law_pick" "_law_pick" s_l_pick 161 fd
  d17 : ∃ fd, keepIn K (.ref 168) = true → Fun K "_law_one" "_law_one" s_l_one 168 fd
  d18 : ∃ fd, keepIn K (.ref 175) = true → Fun K "_law_signs" "_law_signs" s_l_signs 175 fd
  d19 : ∃ fd, keepIn K (.ref 180) = true → Fun K "_law_alphabet" "_law_alphabet" s_l_alphabet 180 fd
  d20 : ∃ fd, keepIn K (.ref 187) = true → Fun K "_law_is_whole" "_law_is_whole" s_l_is_whole 187 fd
  d21 : ∃ fd, keepIn K (.ref 194) = true → Fun K "_law_odd" "_law_odd" s_l_odd 194 fd
  d22 : ∃ fd, keepIn K (.ref 201) = true → Fun K "_law_bent" "_law_bent" s_l_bent 201 fd
  d23 : ∃ fd, keepIn K (.ref 206) = true → Fun K "_law_is_pattern" "_law_is_pattern" s_l_is_pattern 206 fd
  d24 : ∃ fd, keepIn K (.ref 213) = true → Fun K "_law_rows_wrong" "_law_rows_wrong" s_l_rows_wrong 213 fd
  d25 : ∃ fd, keepIn K (.ref 220) = true → Fun K "_law_are_limits" "_law_are_limits" s_l_are_limits 220 fd
  d26 : ∃ fd, keepIn K (.ref 227) = true → Fun K "_law_are_hours" "_law_are_hours" s_l_are_hours 227 fd
  d27 : ∃ fd, keepIn K (.ref 234) = true → Fun K "_law_are_rules" "_law_are_rules" s_l_are_rules 234 fd
  d28 : ∃ fd, keepIn K (.ref 241) = true → Fun K "_law_some_pattern" "_law_some_pattern" s_l_some_pattern 241 fd
  d29 : ∃ fd, keepIn K (.ref 248) = true → Fun K "_law_some_rows" "_law_some_rows" s_l_some_rows 248 fd
  d30 : ∃ fd, keepIn K (.ref 253) = true → Fun K "_law_some_limits" "_law_some_limits" s_l_some_limits 253 fd
  d31 : ∃ fd, keepIn K (.ref 258) = true → Fun K "_law_some_hours" "_law_some_hours" s_l_some_hours 258 fd
  d32 : ∃ fd, keepIn K (.ref 263) = true → Fun K "_law_are_counts" "_law_are_counts" s_l_are_counts 263 fd
  d33 : ∃ fd, keepIn K (.ref 268) = true → Fun K "_law_some_counts" "_law_some_counts" s_l_some_counts 268 fd
  d34 : ∃ fd, keepIn K (.ref 275) = true → Fun K "_law_value_right" "_law_value_right" s_l_value_right 275 fd
  d35 : ∃ fd, keepIn K (.ref 282) = true → Fun K "_law_right" "_law_right" s_l_right 282 fd
  d36 : ∃ fd, keepIn K (.ref 287) = true → Fun K "law" "law" s_law 287 fd
theorem all_ok {P : Program} {w : World} {K : Frag} {h : Heap} {mg : Str → Option Value} {fa : Addr} (Z : Facts K) (X : K.In h) (G : h.Ns mainGlobals mg) (hfa : mg "law" = some (.ref fa)) (h76 : h.get? 76 = some (tabO #[])) (h83 : h.get? 83 = some (tabO #[])) (h104 : h.get? 104 = some (tabO #[])) (h137 : h.get? 137 = some (tabO #[])) :
    ∃ (fd : FuncData) (cs : List (Addr × Addr)) (sp : Sp), (∀ p ∈ cs, h.get? p.2 = some (tabO #[])) ∧ (∀ p ∈ cs, K.lookup p.2 = none) ∧ (∀ p ∈ cs, CodeHd h p.1 p.2) ∧ (∀ (s : Shared) (u : Value), BindsTo s fd ⟨[u], []⟩ [("_law_script", u)]) ∧
      (∀ (H : Hp) (a : Addr) (ns : List Int), ns.length ≤ 63 → (∀ p ∈ cs, H p.2 = some (.tbl #[])) → SqL K H a (ns.map V.int) → sp [.ref a] H (fun v _ => v = .bl true) fun _ _ _ => False) ∧
      ∀ base : Heap, K.In base → base.Ns mainGlobals mg → (∀ p ∈ cs, TabB base mg p.1 p.2) → FnQ P w K mg base CX0 11 fa fd ["_law_script"] sp := by
  have nf := nameF X G Z.f
  have nn := nameN X G Z.n
  have e := hfa.symm.trans (nf 36 (by decide)).1
  cases e
  obtain ⟨z0, u0⟩ := Z.d0
  have u0 := u0 (nf 0 (by decide)).2
  obtain ⟨z1, u1⟩ := Z.d1
  have u1 := u1 (nf 1 (by decide)).2
  obtain ⟨z2, u2⟩ := Z.d2
  have u2 := u2 (nf 2 (by decide)).2
  obtain ⟨z3, u3⟩ := Z.d3
  have u3 := u3 (nf 3 (by decide)).2
  obtain ⟨z4, u4⟩ := Z.d4
  have u4 := u4 (nf 4 (by decide)).2
  obtain ⟨z5, u5⟩ := Z.d5
  have u5 := u5 (nf 5 (by decide)).2
  obtain ⟨z6, u6⟩ := Z.d6
  have u6 := u6 (nf 6 (by decide)).2
  obtain ⟨z7, u7⟩ := Z.d7
  have u7 := u7 (nf 7 (by decide)).2
  obtain ⟨z8, u8⟩ := Z.d8
  have u8 := u8 (nf 8 (by decide)).2
  obtain ⟨z9, u9⟩ := Z.d9
  have u9 := u9 (nf 9 (by decide)).2
  obtain ⟨z10, u10⟩ := Z.d10
  have u10 := u10 (nf 10 (by decide)).2
  obtain ⟨z11, u11⟩ := Z.d11
  have u11 := u11 (nf 11 (by decide)).2
  obtain ⟨z12, u12⟩ := Z.d12
  have u12 := u12 (nf 12 (by decide)).2
  obtain ⟨z13, u13⟩ := Z.d13
  have u13 := u13 (nf 13 (by decide)).2
  obtain ⟨z14, u14⟩ := Z.d14
  have u14 := u14 (nf 14 (by decide)).2
  obtain ⟨z15, u15⟩ := Z.d15
  have u15 := u15 (nf 15 (by decide)).2
  obtain ⟨z16, u16⟩ := Z.d16
  have u16 := u16 (nf 16 (by decide)).2
  obtain ⟨z17, u17⟩ := Z.d17
  have u17 := u17 (nf 17 (by decide)).2
  obtain ⟨z18, u18⟩ := Z.d18
  have u18 := u18 (nf 18 (by decide)).2
  obtain ⟨z19, u19⟩ := Z.d19
  have u19 := u19 (nf 19 (by decide)).2
  obtain ⟨z20, u20⟩ := Z.d20
  have u20 := u20 (nf 20 (by decide)).2
  obtain ⟨z21, u21⟩ := Z.d21
  have u21 := u21 (nf 21 (by decide)).2
  obtain ⟨z22, u22⟩ := Z.d22
  have u22 := u22 (nf 22 (by decide)).2
  obtain ⟨z23, u23⟩ := Z.d23
  have u23 := u23 (nf 23 (by decide)).2
  obtain ⟨z24, u24⟩ := Z.d24
  have u24 := u24 (nf 24 (by decide)).2
  obtain ⟨z25, u25⟩ := Z.d25
  have u25 := u25 (nf 25 (by decide)).2
  obtain ⟨z26, u26⟩ := Z.d26
  have u26 := u26 (nf 26 (by decide)).2
  obtain ⟨z27, u27⟩ := Z.d27
  have u27 := u27 (nf 27 (by decide)).2
  obtain ⟨z28, u28⟩ := Z.d28
  have u28 := u28 (nf 28 (by decide)).2
  obtain ⟨z29, u29⟩ := Z.d29
  have u29 := u29 (nf 29 (by decide)).2
  obtain ⟨z30, u30⟩ := Z.d30
  have u30 := u30 (nf 30 (by decide)).2
  obtain ⟨z31, u31⟩ := Z.d31
  have u31 := u31 (nf 31 (by decide)).2
  obtain ⟨z32, u32⟩ := Z.d32
  have u32 := u32 (nf 32 (by decide)).2
  obtain ⟨z33, u33⟩ := Z.d33
  have u33 := u33 (nf 33 (by decide)).2
  obtain ⟨z34, u34⟩ := Z.d34
  have u34 := u34 (nf 34 (by decide)).2
  obtain ⟨z35, u35⟩ := Z.d35
  have u35 := u35 (nf 35 (by decide)).2
  obtain ⟨z36, u36⟩ := Z.d36
  have u36 := u36 (nf 36 (by decide)).2
  obtain ⟨w0, y0⟩ := int_of Z.k0
  obtain ⟨w1, y1⟩ := int_of Z.k1
  obtain ⟨w2, y2⟩ := int_of Z.k2
  obtain ⟨w3, y3⟩ := str_of Z.k3
  obtain ⟨w4, y4⟩ := int_of Z.k4
  obtain ⟨w5, y5⟩ := int_of Z.k5
  obtain ⟨w6, y6⟩ := int_of Z.k6
  let T : D K mg :=
   {
    f_is_whole := 53,
    d_is_whole := z0,
    U_is_whole := u0,
    g_is_whole := (nf 0 (by decide)).1,
    f_is_between := 60,
    d_is_between := z1,
    U_is_between := u1,
    g_is_between := (nf 1 (by decide)).1,
    f_is_tuple := 67,
    d_is_tuple := z2,
    U_is_tuple := u2,
    g_is_tuple := (nf 2 (by decide)).1,
    f_is_limit := 74,
    d_is_limit := z3,
    U_is_limit := u3,
    g_is_limit := (nf 3 (by decide)).1,
    f_are_limits := 81,
    d_are_limits := z4,
    c_are_limits := 80,
    P_are_limits := 76,
    V_are_limits := u4,
    g_are_limits := (nf 4 (by decide)).1,
    f_are_hours := 88,
    d_are_hours := z5,
    c_are_hours := 87,
    P_are_hours := 83,
    V_are_hours := u5,
    g_are_hours := (nf 5 (by decide)).1,
    f_are_rules := 95,
    d_are_rules := z6,
    U_are_rules := u6,
    g_are_rules := (nf 6 (by decide)).1,
    f_check_limits := 102,
    d_check_limits := z7,
    U_check_limits := u7,
    g_check_limits := (nf 7 (by decide)).1,
    f_is_pattern := 109,
    d_is_pattern := z8,
    c_is_pattern := 108,
    P_is_pattern := 104,
    V_is_pattern := u8,
    g_is_pattern := (nf 8 (by decide)).1,
    f_is_path_row := 116,
    d_is_path_row := z9,
    U_is_path_row := u9,
    g_is_path_row := (nf 9 (by decide)).1,
    f_fault_in_paths := 123,
    d_fault_in_paths := z10,
    U_fault_in_paths := u10,
    g_fault_in_paths := (nf 10 (by decide)).1,
    f_are_paths := 130,
    d_are_paths := z11,
    U_are_paths := u11,
    g_are_paths := (nf 11 (by decide)).1,
    f_span_of := 135,
    d_span_of := z12,
    U_span_of := u12,
    g_span_of := (nf 12 (by decide)).1,
    f_fit := 140,
    d_fit := z13,
    c_fit := 139,
    P_fit := 137,
    V_fit := u13,
    g_fit := (nf 13 (by decide)).1,
    f_are_counts := 147,
    d_are_counts := z14,
    U_are_counts := u14,
    g_are_counts := (nf 14 (by decide)).1,
    f_l_well := 154,
    d_l_well := z15,
    U_l_well := u15,
    g_l_well := (nf 15 (by decide)).1,
    f_l_pick := 161,
    d_l_pick := z16,
    U_l_pick := u16,
    g_l_pick := (nf 16 (by decide)).1,
    f_l_one := 168,
    d_l_one := z17,
    U_l_one := u17,
    g_l_one := (nf 17 (by decide)).1,
    f_l_signs := 175,
    d_l_signs := z18,
    U_l_signs := u18,
    g_l_signs := (nf 18 (by decide)).1,
    f_l_alphabet := 180,
    d_l_alphabet := z19,
    U_l_alphabet := u19,
    g_l_alphabet := (nf 19 (by decide)).1,
    f_l_is_whole := 187,
    d_l_is_whole := z20,
    U_l_is_whole := u20,
    g_l_is_whole := (nf 20 (by decide)).1,
    f_l_odd := 194,
    d_l_odd := z21,
    U_l_odd := u21,
    g_l_odd := (nf 21 (by decide)).1,
    f_l_bent := 201,
    d_l_bent := z22,
    U_l_bent := u22,
    g_l_bent := (nf 22 (by decide)).1,
    f_l_is_pattern := 206,
    d_l_is_pattern := z23,
    U_l_is_pattern := u23,
    g_l_is_pattern := (nf 23 (by decide)).1,
    f_l_rows_wrong := 213,
    d_l_rows_wrong := z24,
    U_l_rows_wrong := u24,
    g_l_rows_wrong := (nf 24 (by decide)).1,
    f_l_are_limits := 220,
    d_l_are_limits := z25,
    U_l_are_limits := u25,
    g_l_are_limits := (nf 25 (by decide)).1,
    f_l_are_hours := 227,
    d_l_are_hours := z26,
    U_l_are_hours := u26,
    g_l_are_hours := (nf 26 (by decide)).1,
    f_l_are_rules := 234,
    d_l_are_rules := z27,
    U_l_are_rules := u27,
    g_l_are_rules := (nf 27 (by decide)).1,
    f_l_some_pattern := 241,
    d_l_some_pattern := z28,
    U_l_some_pattern := u28,
    g_l_some_pattern := (nf 28 (by decide)).1,
    f_l_some_rows := 248,
    d_l_some_rows := z29,
    U_l_some_rows := u29,
    g_l_some_rows := (nf 29 (by decide)).1,
    f_l_some_limits := 253,
    d_l_some_limits := z30,
    U_l_some_limits := u30,
    g_l_some_limits := (nf 30 (by decide)).1,
    f_l_some_hours := 258,
    d_l_some_hours := z31,
    U_l_some_hours := u31,
    g_l_some_hours := (nf 31 (by decide)).1,
    f_l_are_counts := 263,
    d_l_are_counts := z32,
    U_l_are_counts := u32,
    g_l_are_counts := (nf 32 (by decide)).1,
    f_l_some_counts := 268,
    d_l_some_counts := z33,
    U_l_some_counts := u33,
    g_l_some_counts := (nf 33 (by decide)).1,
    f_l_value_right := 275,
    d_l_value_right := z34,
    U_l_value_right := u34,
    g_l_value_right := (nf 34 (by decide)).1,
    f_l_right := 282,
    d_l_right := z35,
    U_l_right := u35,
    g_l_right := (nf 35 (by decide)).1,
    f_law := 287,
    d_law := z36,
    U_law := u36,
    g_law := (nf 36 (by decide)).1,
    t_MOST_ASKS := w0,
    g_MOST_ASKS := mg_of X G y0,
    t_WIDEST := w1,
    g_WIDEST := mg_of X G y1,
    t_MOST_PAIRS := w2,
    g_MOST_PAIRS := mg_of X G y2,
    t_SIGNS := w3,
    g_SIGNS := mg_of X G y3,
    t_LONGEST_PATTERN := w4,
    g_LONGEST_PATTERN := mg_of X G y4,
    t_MOST_STARS := w5,
    g_MOST_STARS := mg_of X G y5,
    t_MOST_PATHS := w6,
    g_MOST_PATHS := mg_of X G y6,
    abs := nn 0 (by decide),
    all := nn 1 (by decide),
    bool := nn 2 (by decide),
    divmod := nn 3 (by decide),
    enumerate := nn 4 (by decide),
    int := nn 5 (by decide),
    isinstance := nn 6 (by decide),
    len := nn 7 (by decide),
    list := nn 8 (by decide),
    max := nn 9 (by decide),
    min := nn 10 (by decide),
    range := nn 11 (by decide),
    repr := nn 12 (by decide),
    str := nn 13 (by decide),
    sum := nn 14 (by decide),
    tuple := nn 15 (by decide) }
  refine ⟨T.d_law, [(80, 76), (87, 83), (108, 104), (139, 137)], spLaw T, ?_, ?_, ?_, ?_, ?_, fun base _ _ TB => ok_law T ⟨TB (80, 76) (by simp), TB (87, 83) (by simp), TB (108, 104) (by simp), TB (139, 137) (by simp)⟩ (sysM_of Z.s)⟩
  · intro p hp
    simp only [List.mem_cons, List.not_mem_nil, or_false] at hp
    rcases hp with rfl | rfl | rfl | rfl
    · exact h76
    · exact h83
    · exact h104
    · exact h137
  · intro p hp
    simp only [List.mem_cons, List.not_mem_nil, or_false] at hp
    rcases hp with rfl | rfl | rfl | rfl
    · exact Option.isNone_iff_eq_none.mp Z.o4
    · exact Option.isNone_iff_eq_none.mp Z.o5
    · exact Option.isNone_iff_eq_none.mp Z.o8
    · exact Option.isNone_iff_eq_none.mp Z.o13
  · intro p hp
    simp only [List.mem_cons, List.not_mem_nil, or_false] at hp
    rcases hp with rfl | rfl | rfl | rfl
    · exact hdB_ok X (by decide) Z.t4
    · exact hdB_ok X (by decide) Z.t5
    · exact hdB_ok X (by decide) Z.t8
    · exact hdB_ok X (by decide) Z.t13
  · obtain ⟨oc, od, kV, doc, pm, an, cdv, ct, osl, e, _⟩ := T.U_law.ex
    rw [e]
    exact fun s u => .of_eq rfl
  · intro H a ns hl hT hS
    refine ⟨a, ns, rfl, hS, hl, fun q hq => ?_, fun _ => rfl⟩
    simp only [tabs, List.mem_cons, List.not_mem_nil, or_false] at hq
    rcases hq with rfl | rfl | rfl | rfl
    · exact ⟨#[], hT (80, 76) (by simp), by simp [TriplesOk]⟩
    · exact ⟨#[], hT (87, 83) (by simp), by simp [TriplesOk]⟩
    · exact ⟨#[], hT (108, 104) (by simp), by simp [TriplesOk]⟩
    · exact ⟨#[], hT (139, 137) (by simp), by simp [TriplesOk]⟩
end KP

set_option Elab.async false
set_option maxRecDepth 100000
set_option maxHeartbeats 8000000
set_option linter.all false
namespace KP
open PySem PySem.Spec PyProof.Rows L2 Gr PySem.W
/-! the head: beside the written part the table of the modules is looked at, and the tables of the code objects that make generators -/
noncomputable def sysO (P : Params) : Obj := ((boot_heap P).get? sysModules).getD default
noncomputable def withSys (K : Params → Frag) (P : Params) : Frag := (sysModules, sysO P) :: K P
theorem lookup_withSys {K : Params → Frag} {P : Params} (b : Addr) (h : b ≠ sysModules) : (withSys K P).lookup b = (K P).lookup b := by
  unfold withSys
  rw [List.lookup_cons, beq_eq_false_iff_ne.mpr h]
noncomputable def withTabs (K : Params → Frag) (P : Params) : Frag := (76, tabO #[]) :: (83, tabO #[]) :: (104, tabO #[]) :: (137, tabO #[]) :: withSys K P
theorem tabE {K : Params → Frag} {as : List Addr} (e : ∀ P, as = (K P).map (·.1)) (P : Params) : 76 :: 83 :: 104 :: 137 :: sysModules :: as = (withTabs K P).map (·.1) := congrArg (fun l => 76 :: 83 :: 104 :: 137 :: sysModules :: l) (e P)
theorem tabs_in {K : Params → Frag} {P : Params} {h : Heap} (X : (withTabs K P).In h) (o76 : ((withSys K P).lookup 76).isNone = true) (o83 : ((withSys K P).lookup 83).isNone = true) (o104 : ((withSys K P).lookup 104).isNone = true) (o137 : ((withSys K P).lookup 137).isNone = true) : (withSys K P).In h ∧ h.get? 76 = some (tabO #[]) ∧ h.get? 83 = some (tabO #[]) ∧ h.get? 104 = some (tabO #[]) ∧ h.get? 137 = some (tabO #[]) := by
  refine ⟨fun b o e => X b o ?_, X 76 _ (by rfl), X 83 _ (by rfl), X 104 _ (by rfl), X 137 _ (by rfl)⟩
  have n76 : b ≠ 76 := fun q => by
    rw [q, Option.isNone_iff_eq_none.mp o76] at e
    cases e
  have n83 : b ≠ 83 := fun q => by
    rw [q, Option.isNone_iff_eq_none.mp o83] at e
    cases e
  have n104 : b ≠ 104 := fun q => by
    rw [q, Option.isNone_iff_eq_none.mp o104] at e
    cases e
  have n137 : b ≠ 137 := fun q => by
    rw [q, Option.isNone_iff_eq_none.mp o137] at e
    cases e
  unfold withTabs
  rw [List.lookup_cons, beq_eq_false_iff_ne.mpr n76]
  rw [List.lookup_cons, beq_eq_false_iff_ne.mpr n83]
  rw [List.lookup_cons, beq_eq_false_iff_ne.mpr n104]
  rw [List.lookup_cons, beq_eq_false_iff_ne.mpr n137]
  exact e
end KP
open PySem PySem.W PyProof.Rows
local macro_rules
  | `(tactic| o_headL ($_ $K $as $p)) => `(tactic| o_headL PySem.W.kHook (KP.withTabs $K) (76 :: 83 :: 104 :: 137 :: PySem.sysModules :: $as) (KP.tabE (K := $K) (as := $as) $p))
set_option maxHeartbeats 0 in
theorem PySem.Challenge.cw_gentlerounds_k09_limits_hours_and_rows_o_holds : PySem.Challenge.rw_gentlerounds_k09_limits_hours_and_rows_o.Holds := by
  w_on; o_law; k_headL; (case hw => w_witness2)
  k_fill
  refine Gr.walk_ofQT (l := PySem.Challenge.rw_gentlerounds_k09_limits_hours_and_rows_o) (n := 63) (k := 11) (x := "_law_script") (K := KP.withSys _) rfl (by decide) rfl ⟨rfl, by decide, by decide⟩ (fun w h Y => (KP.tabs_in (PySem.W.kIn_of Y) (by kernel_rfl) (by kernel_rfl) (by kernel_rfl) (by kernel_rfl)).1) ?F
  case F => as_aux_lemma =>
    intro w mg fa h Y KX G hmg
    have Q := KP.tabs_in (PySem.W.kIn_of Y) (by kernel_rfl) (by kernel_rfl) (by kernel_rfl) (by kernel_rfl)
    refine' KP.all_ok (KP.Facts.mk ?n ?f ?s ?k0 ?k1 ?k2 ?k3 ?k4 ?k5 ?k6 ?d0 ?d1 ?d2 ?d3 ?d4 ?t4 ?o4 ?d5 ?t5 ?o5 ?d6 ?d7 ?d8 ?t8 ?o8 ?d9 ?d10 ?d11 ?d12 ?d13 ?t13 ?o13 ?d14 ?d15 ?d16 ?d17 ?d18 ?d19 ?d20 ?d21 ?d22 ?d23 ?d24 ?d25 ?d26 ?d27 ?d28 ?d29 ?d30 ?d31 ?d32 ?d33 ?d34 ?d35 ?d36) KX G hmg Q.2.1 Q.2.2.1 Q.2.2.2.1 Q.2.2.2.2
    (case n => as_aux_lemma => kernel_rfl)
    (case f => as_aux_lemma => kernel_rfl)
    (case s => as_aux_lemma => kernel_rfl)
    (case k0 => as_aux_lemma => kernel_rfl)
    (case k1 => as_aux_lemma => kernel_rfl)
    (case k2 => as_aux_lemma => kernel_rfl)
    (case k3 => as_aux_lemma => kernel_rfl)
    (case k4 => as_aux_lemma => kernel_rfl)
    (case k5 => as_aux_lemma => kernel_rfl)
    (case k6 => as_aux_lemma => kernel_rfl)
    (case d0 => (refine' KP.fun_mkS (f := 53) KP.lookup_withSys (by decide) ?l ?c; (case l => k_is); (case c => kernel_rfl)))
    (case d1 => (refine' KP.fun_mkS (f := 60) KP.lookup_withSys (by decide) ?l ?c; (case l => k_is); (case c => kernel_rfl)))
    (case d2 => (refine' KP.fun_mkS (f := 67) KP.lookup_withSys (by decide) ?l ?c; (case l => k_is); (case c => kernel_rfl)))
    (case d3 => (refine' KP.fun_mkS (f := 74) KP.lookup_withSys (by decide) ?l ?c; (case l => k_is); (case c => kernel_rfl)))
    (case d4 => (refine' KP.fun_mkC (f := 81) KP.lookup_withSys (by decide) ?l ?c; (case l => k_is); (case c => kernel_rfl)))
    (case t4 => as_aux_lemma => kernel_rfl)
    (case o4 => as_aux_lemma => kernel_rfl)
    (case d5 => (refine' KP.fun_mkC (f := 88) KP.lookup_withSys (by decide) ?l ?c; (case l => k_is); (case c => kernel_rfl)))
    (case t5 => as_aux_lemma => kernel_rfl)
    (case o5 => as_aux_lemma => kernel_rfl)
    (case d6 => (refine' KP.fun_mkS (f := 95) KP.lookup_withSys (by decide) ?l ?c; (case l => k_is); (case c => kernel_rfl)))
    (case d7 => (refine' KP.fun_mkS (f := 102) KP.lookup_withSys (by decide) ?l ?c; (case l => k_is); (case c => kernel_rfl)))
    (case d8 => (refine' KP.fun_mkC (f := 109) KP.lookup_withSys (by decide) ?l ?c; (case l => k_is); (case c => kernel_rfl)))
    (case t8 => as_aux_lemma => kernel_rfl)
    (case o8 => as_aux_lemma => kernel_rfl)
    (case d9 => (refine' KP.fun_mkS (f := 116) KP.lookup_withSys (by decide) ?l ?c; (case l => k_is); (case c => kernel_rfl)))
    (case d10 => (refine' KP.fun_mkS (f := 123) KP.lookup_withSys (by decide) ?l ?c; (case l => k_is); (case c => kernel_rfl)))
    (case d11 => (refine' KP.fun_mkS (f := 130) KP.lookup_withSys (by decide) ?l ?c; (case l => k_is); (case c => kernel_rfl)))
    (case d12 => (refine' KP.fun_mkS (f := 135) KP.lookup_withSys (by decide) ?l ?c; (case l => k_is); (case c => kernel_rfl)))
    (case d13 => (refine' KP.fun_mkC (f := 140) KP.lookup_withSys (by decide) ?l ?c; (case l => k_is); (case c => kernel_rfl)))
    (case t13 => as_aux_lemma => kernel_rfl)
    (case o13 => as_aux_lemma => kernel_rfl)
    (case d14 => (refine' KP.fun_mkS (f := 147) KP.lookup_withSys (by decide) ?l ?c; (case l => k_is); (case c => kernel_rfl)))
    (case d15 => (refine' KP.fun_mkS (f := 154) KP.lookup_withSys (by decide) ?l ?c; (case l => k_is); (case c => kernel_rfl)))
    (case d16 => (refine' KP.fun_mkS (f := 161) KP.lookup_withSys (by decide) ?l ?c; (case l => k_is); (case c => kernel_rfl)))
    (case d17 => (refine' KP.fun_mkS (f := 168) KP.lookup_withSys (by decide) ?l ?c; (case l => k_is); (case c => kernel_rfl)))
    (case d18 => (refine' KP.fun_mkS (f := 175) KP.lookup_withSys (by decide) ?l ?c; (case l => k_is); (case c => kernel_rfl)))
    (case d19 => (refine' KP.fun_mkS (f := 180) KP.lookup_withSys (by decide) ?l ?c; (case l => k_is); (case c => kernel_rfl)))
    (case d20 => (refine' KP.fun_mkS (f := 187) KP.lookup_withSys (by decide) ?l ?c; (case l => k_is); (case c => kernel_rfl)))
    (case d21 => (refine' KP.fun_mkS (f := 194) KP.lookup_withSys (by decide) ?l ?c; (case l => k_is); (case c => kernel_rfl)))
    (case d22 => (refine' KP.fun_mkS (f := 201) KP.lookup_withSys (by decide) ?l ?c; (case l => k_is); (case c => kernel_rfl)))
    (case d23 => (refine' KP.fun_mkS (f := 206) KP.lookup_withSys (by decide) ?l ?c; (case l => k_is); (case c => kernel_rfl)))
    (case d24 => (refine' KP.fun_mkS (f := 213) KP.lookup_withSys (by decide) ?l ?c; (case l => k_is); (case c => kernel_rfl)))
    (case d25 => (refine' KP.fun_mkS (f := 220) KP.lookup_withSys (by decide) ?l ?c; (case l => k_is); (case c => kernel_rfl)))
    (case d26 => (refine' KP.fun_mkS (f := 227) KP.lookup_withSys (by decide) ?l ?c; (case l => k_is); (case c => kernel_rfl)))
    (case d27 => (refine' KP.fun_mkS (f := 234) KP.lookup_withSys (by decide) ?l ?c; (case l => k_is); (case c => kernel_rfl)))
    (case d28 => (refine' KP.fun_mkS (f := 241) KP.lookup_withSys (by decide) ?l ?c; (case l => k_is); (case c => kernel_rfl)))
    (case d29 => (refine' KP.fun_mkS (f := 248) KP.lookup_withSys (by decide) ?l ?c; (case l => k_is); (case c => kernel_rfl)))
    (case d30 => (refine' KP.fun_mkS (f := 253) KP.lookup_withSys (by decide) ?l ?c; (case l => k_is); (case c => kernel_rfl)))
    (case d31 => (refine' KP.fun_mkS (f := 258) KP.lookup_withSys (by decide) ?l ?c; (case l => k_is); (case c => kernel_rfl)))
    (case d32 => (refine' KP.fun_mkS (f := 263) KP.lookup_withSys (by decide) ?l ?c; (case l => k_is); (case c => kernel_rfl)))
    (case d33 => (refine' KP.fun_mkS (f := 268) KP.lookup_withSys (by decide) ?l ?c; (case l => k_is); (case c => kernel_rfl)))
    (case d34 => (refine' KP.fun_mkS (f := 275) KP.lookup_withSys (by decide) ?l ?c; (case l => k_is); (case c => kernel_rfl)))
    (case d35 => (refine' KP.fun_mkS (f := 282) KP.lookup_withSys (by decide) ?l ?c; (case l => k_is); (case c => kernel_rfl)))
    (case d36 => (refine' KP.fun_mkS (f := 287) KP.lookup_withSys (by decide) ?l ?c; (case l => k_is); (case c => kernel_rfl)))

