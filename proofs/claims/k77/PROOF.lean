import PyProof.Rows.All
import Wide.All
import OpenK.AllK
import Wide.FinOn
import KE.DatumIndex
import HandS.ForMost
import HandS.ForExc
import HandS.ExcInit
import HandS.ExcIs
import HandS.ExcField
import HandS.IsInst
import HandS.Wide
import HandS.WideBits
import HandS.AnyAll
import HandS.Walk
import HandS.Conv
import HandS.TupAny
import KE.GoesEnumKw
import KE.DataIsa
import HandS.Comp
import HandS.Zip
import HandS.TupLe
import HandS.ListEq
import HandS.StrMore
import HandS.Dict
import HandS.SortKw
import KE.DataMinMax
import KE.KTupSum
import HandS.TupMul
import HandS.Style
import HandS.SortInts
import KE.SortCalls
import KE.KIndexOf
import KE.KDictDisplayH
import HandS.Defaults
import HandS.Property
import HandS.MakeKwOnly
import PySem.Challenge.RW_gentlerounds_k77_whole_dealt_crawlers_st
import HandS.Small
import KE.DataFind
import HandS.EndTab
import HandS.ExcOwn
import KE.KAssignIn
import HandS.ExcValue
import HandS.Iter
import HandS.TryMany
import HandS.TryOnly
import HandS.WordsExc
import HandS.SetFor
import KE.OsRunLaw
set_option Elab.async false
set_option maxRecDepth 100000
set_option maxHeartbeats 4000000
set_option linter.all false
/-! Ours: defs that are entered where no repr is under way (FnQ), their calls and bodies; repr of data. -/
namespace Gr
open PySem PySem.Spec PyProof.Rows L2
/-- a def's promise, for calls where no repr is under way -/
structure FnQ (P : Program) (w : World) (K : PySem.W.Frag) (mg : Str → Option Value) (base : Heap) (CX : CXT) (k : Nat)
    (f : Addr) (fd : FuncData) (ps : List Str) (sp : Sp) : Prop where
  len : ∀ vs H Q E, sp vs H Q E → vs.length = ps.length
  run : ∀ (A : Around) (outer : List Env) (s : Shared) (H : Hp) (args : Args) (us : List Value) (vs : List V) (Q : VK) (E : XK),
    A.guards = some [] → Room k A → Env0 P w K mg base A outer s H → BindsTo s fd args (ps.zip us) → Vals vs us → sp vs H Q E →
    codeAny (model P w) A (.call (.ref f) args) (CR CX outer P w H s Q E) s
section
variable {P : Program} {w : World} {K : PySem.W.Frag} {mg : Str → Option Value} {base : Heap}
/-- such a def by its body -/
theorem fnQ_of {CX : CXT} {k : Nat} {f : Addr} {nm ql : Str} {par : Arguments} {bd : List Stmt} {sc : Scope}
    {dV kV doc pm cdv ct oc : Value} {an od : Option Addr} {osl : Array (Option Value)} {N ps : List Str} {sp : Sp}
    (lk : K.lookup f = some ⟨oc, od, .func (PySem.W.fnOf nm ql par bd sc dV kV doc pm an cdv ct), osl⟩)
    (hcd : PySem.W.codeIn K cdv ql = true) (S : FnScope N ps sc)
    (len : ∀ vs H Q E, sp vs H Q E → vs.length = ps.length)
    (hb : ∀ (A : Around) (outer : List Env) (s : Shared) (H : Hp) (vs : List V) (Q : VK) (E : XK), A.guards = some [] →
      Room k (A.deeper (envOfC ql sc s.heap.objs.size f cdv)) → sp vs H Q E →
      ∃ t, PSs (cxOf CX P w K mg base N ql sc f cdv A outer s H E) bd t ∧
        t { nx := fun _ H' => Q .non H', rt := Q } (start N vs) H) :
    FnQ P w K mg base CX (k + 1) f (PySem.W.fnOf nm ql par bd sc dV kV doc pm an cdv ct) ps sp := by
  refine ⟨len, fun A outer s H args us vs Q E hgu hr e0 hbi r hsp => ?_⟩
  have hlen := len _ _ _ _ hsp
  have keepB : ∀ b o, base.get? b = some o → s.heap.get? b = some o := fun b o e => (e0.bs b o e).1
  have KX : K.In s.heap := e0.mod.kin.keeps keepB
  have lim : s.heap.NoLimit := e0.mod.nolimit.keeps keepB
  refine codeAny_call_function hr.depth (KX _ _ lk) rfl S.co S.gen rfl (PySem.W.codeRec_of KX hcd) (hbi _ _ _ _ ?_)
  refine wpAny_newFunctionEnv_cells S.kind (fun ⟨n, v⟩ hy => ?_) fun env he s1 x => ?_
  · exact (S.par n (List.of_mem_zip hy).1).elim .inl fun q => .inr ⟨q, PySem.W.cellsFrom_some _ _ _ (.inl q)⟩
  subst he
  refine ⟨lim.keeps x.toInCall.keep, codeAny_func ?_⟩
  obtain ⟨t, ht, hq⟩ := hb A outer s H vs Q E hgu (hr.deeper _) hsp
  have I := inv_start (CX := CX) (E := E) S hr.hd e0 hlen r x
  refine wpAny_mono (ht.run [] s1 (start N vs) H _ I hq) (fun fl s' hs => ?_) fun e s' hs => hs
  cases fl with
  | ret u =>
    obtain ⟨v, σ', H', J, rv, q⟩ := hs
    exact ⟨v, H', J.os, J.bare, J.base, J.hok, rv, q⟩
  | next =>
    obtain ⟨σ', H', J, q⟩ := hs
    exact ⟨V.non, H', J.os, J.bare, J.base, J.hok, rfl, q⟩
  | brk =>
    obtain ⟨_, _, _, q⟩ := hs
    exact q.elim
  | cont =>
    obtain ⟨_, _, _, q⟩ := hs
    exact q.elim
/-- the same in the words of Fun -/
theorem funQ {x ql : Str} {st : Stmt} {f : Addr} {fd : FuncData} {N ps : List Str} {k : Nat} {sp : Sp} (F : Fun K x ql st f fd)
    (S : FnScope N ps (defScope st)) (len : ∀ vs H Q E, sp vs H Q E → vs.length = ps.length)
    (hb : ∀ (cdv : Value) (A : Around) (outer : List Env) (s : Shared) (H : Hp) (vs : List V) (Q : VK) (E : XK), A.guards = some [] →
      Room k (A.deeper (envOfC ql (defScope st) s.heap.objs.size f cdv)) → sp vs H Q E →
      ∃ t, PSs (cxOf CX0 P w K mg base N ql (defScope st) f cdv A outer s H E).nox (defBody st) t ∧
        t { nx := fun _ H' => Q .non H', rt := Q } (start N vs) H) : FnQ P w K mg base CX0 (k + 1) f fd ps sp := by
  obtain ⟨oc, od, kV, doc, pm, an, cdv, ct, osl, rfl, lk, hcd⟩ := F.ex
  refine fnQ_of lk hcd S len fun A outer s H vs Q E hgu hr hsp => ?_
  obtain ⟨t, h, q⟩ := hb cdv A outer s H vs Q E hgu hr hsp
  exact ⟨t, h.nox, q⟩
end
section
variable {X : Cx} {CX : CXT} {k : Nat} {f : Addr} {fd : FuncData} {ps : List Str} {sp : Sp} {dvs : List V} {ds : List Value} {E : XK} {x : Str} {p pos : Pos} {e : Expr} {es : List Expr} {t : TA}
theorem run_fnQ {pins : List (Addr × Obj)} {σ : L2.St} {H : Hp} {s : Shared} {Q : VK} {us : List Value} {vs : List V} (hgu : X.A.guards = some [])
    (F : FnQ X.prog X.w X.K X.mg X.base CX k f fd ps sp) (hr : Room k X.A) (hb : Binds X.K fd ps ds) (hd : Vals dvs ds) (hx : Passes CX X E)
    (I : Inv X pins σ H s) (r : Vals vs us) (h : sp (vs ++ dvs) H Q E) : wpAny (model X.prog X.w) X.A (call (.ref f) us) (EP X pins σ Q) X.xe s := by
  have r2 := Vals.append r hd
  have hl : (us ++ ds).length = ps.length := (r2.length).symm.trans (F.len _ _ _ _ h)
  refine wpAny_call (codeAny_mono (F.run X.A X.stack s H ⟨us, []⟩ (us ++ ds) (vs ++ dvs) Q E hgu hr I.env0 (hb s us I.kIn hl) r2 h) fun rr s' hq => ?_)
  match rr, hq with
  | .error e, hq => exact hx pins σ H s e s' I hq
  | .ok (.ret u), hq => exact I.after hq
/-- f(e, ..) -/
theorem pe_callQ (hgu : X.A.guards = some []) (F : FnQ X.prog X.w X.K X.mg X.base CX k f fd ps sp) (hr : Room k X.A) (hg : Gl X x) (hm : X.mg x = some (.ref f))
    (hk : PySem.W.keepIn X.K (.ref f) = true) (hb : Binds X.K fd ps ds) (hd : Vals dvs ds) (hx : Passes CX X E) (ha : PA X (e :: es) t)
    (hdb : (x == ("__debug__" : Str)) = false := by decide) (he : starEach (e :: es) X.env = (false, eval e X.env) :: starEach es X.env := by rfl)
    (hpl : (backTo pos (starEach es X.env)).any (·.1) = false := by rfl) : PE X (.Call (.Name x p) (e :: es) [] pos) (tCall sp dvs E t) :=
  ⟨fun pins s σ H Q I h => wpAny_Call_Name_kw (ld_glob I hg hm (PySem.W.callWith_K (h₀ := X.base) I.ok.mod.kin hk
    (thn (ha.run pos pins s σ H _ I h) fun us s1 ⟨vs, H1, I1, r, q⟩ => ⟨I1.kIn, run_fnQ hgu F hr hb hd hx I1 r q⟩) he hpl) hdb)⟩
end
end Gr
set_option Elab.async false
set_option maxRecDepth 100000
set_option maxHeartbeats 4000000
set_option linter.all false
/-! Ours: repr of data (lists, tuples, dicts of int and text keys, nested), where no repr is under way. -/
namespace Gr
open PySem PySem.Spec PyProof.Rows L2
mutual
/-- the value v holds the data d -/
inductive Dq (K : PySem.W.Frag) (H : Hp) : V → PyData → Prop
  | non : Dq K H .non .none
  | bl (b : Bool) : Dq K H (.bl b) (.bool b)
  | int (i : Int) : Dq K H (.int i) (.int i)
  | str (x : Str) : Dq K H (.str x) (.str x)
  | lst {a : Addr} {xs : List V} {ds : List PyData} : SqL K H a xs → DqAll K H xs ds → Dq K H (.ref a) (.list ds)
  | tup {a : Addr} {xs : List V} {ds : List PyData} : SqT K H a xs → DqAll K H xs ds → Dq K H (.ref a) (.tuple ds)
  | dic {a : Addr} {kvs : List (Key × V)} {ds : List (PyData × PyData)} : H a = some (.dK kvs) →
      DqAll K H (kvs.map fun p => kV p.1) (ds.map (·.1)) → DqAll K H (kvs.map (·.2)) (ds.map (·.2)) → Dq K H (.ref a) (.dict ds)
inductive DqAll (K : PySem.W.Frag) (H : Hp) : List V → List PyData → Prop
  | nil : DqAll K H [] []
  | cons {v : V} {vs : List V} {d : PyData} {ds : List PyData} : Dq K H v d → DqAll K H vs ds → DqAll K H (v :: vs) (d :: ds)
end
theorem SqT_same {K : PySem.W.Frag} {H H' : Hp} {a : Addr} {xs : List V} (e : Same H H') (h : SqT K H a xs) : SqT K H' a xs := by
  rcases h with (h | ⟨o, h⟩) | h
  · exact .inl (.inl (e _ _ h))
  · exact .inl (.inr ⟨o, e _ _ h⟩)
  · exact .inr h
/-- what more is tracked changes no data -/
theorem Dq.same {K : PySem.W.Frag} {H H' : Hp} {v : V} {d : PyData} (e : Same H H') (h : Dq K H v d) : Dq K H' v d :=
  Dq.rec (motive_1 := fun v d _ => Dq K H' v d) (motive_2 := fun vs ds _ => DqAll K H' vs ds)
    .non .bl .int .str (fun hs _ ih => .lst (e.seq hs) ih) (fun hs _ ih => .tup (SqT_same e hs) ih)
    (fun hd _ _ i1 i2 => .dic (e _ _ hd) i1 i2) .nil (fun _ _ i1 i2 => .cons i1 i2) h
theorem keys_of_pairs {P : Program} {w : World} : ∀ {es : List DictEntry} {kvs : List (Key × Value)}, Pairs (mixKind P w) es kvs → Vals (kvs.map fun p => kV p.1) (es.map (·.key))
  | _, _, .nil => .nil
  | _, _, .cons h _ t => by
    refine .cons ?_ (keys_of_pairs t)
    rcases keyIs_shape h with ⟨i, t, e1, e2⟩ | ⟨x, t, e1, e2⟩
    · dsimp only
      rw [e1, e2]
      exact ⟨t, rfl⟩
    · dsimp only
      rw [e1, e2]
      exact ⟨t, rfl⟩
theorem vals_of_pairs {P : Program} {w : World} : ∀ {es : List DictEntry} {kvs : List (Key × Value)}, Pairs (mixKind P w) es kvs → es.map (·.val) = kvs.map (·.2)
  | _, _, .nil => rfl
  | _, _, .cons _ h t => by rw [List.map_cons, List.map_cons, h, vals_of_pairs t]
theorem kv_keys : ∀ {kvs : List (Key × V)} {vs : List (Key × Value)}, KV kvs vs → kvs.map (fun p => kV p.1) = vs.map (fun p => kV p.1)
  | _, _, .nil => rfl
  | _, _, .cons h t => by rw [List.map_cons, List.map_cons, h.1, kv_keys t]
theorem kv_vals : ∀ {kvs : List (Key × V)} {vs : List (Key × Value)}, KV kvs vs → Vals (kvs.map (·.2)) (vs.map (·.2))
  | _, _, .nil => .nil
  | _, _, .cons h t => .cons h.2 (kv_vals t)
/-- sys.modules is a dict of the written part -/
def SysM (K : PySem.W.Frag) : Prop := ∃ o es n, K.lookup sysModules = some o ∧ o.data = .dict es n
section
variable {X : Cx} {pins : List (Addr × Obj)} {σ : L2.St} {H : Hp} {s : Shared}
theorem Dq.reads (I : Inv X pins σ H s) {v : V} {d : PyData} (h : Dq X.K H v d) : ∀ u : Value, RelV v u → ∃ as, Reads s.heap u d as ∧ (SysM X.K → sysModules ∉ as) := by
  refine Dq.rec (motive_1 := fun v d _ => ∀ u : Value, RelV v u → ∃ as, Reads s.heap u d as ∧ (SysM X.K → sysModules ∉ as))
    (motive_2 := fun vs ds _ => ∀ us : List Value, Vals vs us → ∃ as, ReadsAll s.heap us ds as ∧ (SysM X.K → sysModules ∉ as)) ?_ ?_ ?_ ?_ ?_ ?_ ?_ ?_ ?_ h
  · intro u r
    cases r
    exact ⟨_, .none, fun _ z => nomatch z⟩
  · intro b u r
    cases r
    exact ⟨_, .bool b, fun _ z => nomatch z⟩
  · intro i u r
    obtain ⟨t, rfl⟩ := r
    exact ⟨_, .int i t, fun _ z => nomatch z⟩
  · intro x u r
    obtain ⟨t, rfl⟩ := r
    exact ⟨_, .str x t, fun _ z => nomatch z⟩
  · intro a xs ds hs _ ih u r
    cases r
    obtain ⟨its, rv, ⟨o, n, ho, hc, _, hd⟩, _⟩ := I.list hs
    obtain ⟨as, hr, hm⟩ := ih its rv
    refine ⟨_, .list ho hc hd hr, fun M z => ?_⟩
    rcases List.mem_cons.mp z with z | z
    · obtain ⟨o', es, n', e1, e2⟩ := id M
      have e3 := I.kIn _ _ e1
      rw [z, ho] at e3
      cases e3
      rw [hd] at e2
      cases e2
    · exact hm M z
  · intro a xs ds hs _ ih u r
    cases r
    obtain ⟨its, rv, ⟨o, ho, hc, n, hd⟩, _⟩ := I.tuple hs
    obtain ⟨as, hr, hm⟩ := ih its rv
    exact ⟨_, .tuple ho hc hd hr, hm⟩
  · intro a kvs ds hd _ _ i1 i2 u r
    cases r
    obtain ⟨_, hsm, vs, kv, o, es, ep, ho, hx, hdt, _, hp, _⟩ := (show ObjOk X.prog X.w H s.heap a (.dK kvs) from I.hok a _ hd)
    obtain ⟨as, r1, m1⟩ := i1 (es.toList.map (·.key)) (by rw [kv_keys kv]; exact keys_of_pairs hp)
    obtain ⟨bs, r2, m2⟩ := i2 (es.toList.map (·.val)) (by rw [vals_of_pairs hp]; exact kv_vals kv)
    refine ⟨_, .dict ho hx.1 hdt r1 r2, fun M z => ?_⟩
    rcases List.mem_append.mp z with z | z
    · rcases List.mem_cons.mp z with z | z
      · rw [← z] at hsm
        exact absurd hsm (by decide)
      · exact m1 M z
    · exact m2 M z
  · intro us r
    cases r
    exact ⟨_, .nil, fun _ z => nomatch z⟩
  · intro v vs d ds _ _ i1 i2 us r
    cases r with
    | cons ra rr =>
      obtain ⟨as, q1, m1⟩ := i1 _ ra
      obtain ⟨bs, q2, m2⟩ := i2 _ rr
      refine ⟨_, .cons q1 q2, fun M z => ?_⟩
      rcases List.mem_append.mp z with z | z
      · exact m1 M z
      · exact m2 M z
end
/-- repr(x), x data -/
def rRepr (K : PySem.W.Frag) : List V → Hp → VK → Prop := fun xs H Q => ∃ v d, xs = [v] ∧ Dq K H v d ∧ d.showable = true ∧ d.depth ≤ 60 ∧ d.shown.length ≤ sizeLine ∧ Q (.str d.shown) H
section
variable {X : Cx}
theorem call_reprD (hgu : X.A.guards = some []) (hu : X.A.units + 64 < cLine) (hM : SysM X.K) : CallR X (.builtin "repr") (rRepr X.K) := by
  intro pins s σ H xs us Q I r h
  obtain ⟨v, d, rfl, hd, hs, hdp, hz, q⟩ := h
  obtain ⟨u, rfl, ru⟩ := vals1 r
  obtain ⟨as, hr, hm⟩ := hd.reads I u ru
  have fin : ∀ h' tk t, (∀ b o, s.heap.get? b = some o → h'.get? b = some o) → EP X pins σ Q (.str d.shown t) { s with heap := h', toks := tk } :=
    fun h' tk t hk => ⟨.str d.shown, H, I.kept hk, ⟨_, rfl⟩, q⟩
  cases v with
  | ref a =>
    cases (show u = Value.ref a from ru)
    exact repr_of_reads' hr hs (fun _ => hm hM) hgu (by omega) (fun _ _ e => e) (fun h' t tk hk => fin h' tk t hk) hz
  | non =>
    cases hd
    cases (show u = Value.none from ru)
    exact PySem.P.repr_of_none (fin s.heap _ _ fun _ _ e => e)
  | bl b =>
    cases hd
    cases (show u = Value.bool b from ru)
    exact PySem.P.repr_of_bool (fin s.heap _ _ fun _ _ e => e)
  | int i =>
    cases hd
    obtain ⟨t, e⟩ := (show ∃ t, u = Value.int i t from ru)
    subst e
    exact PySem.P.repr_of_int (by simpa [PyData.showable] using hs) (fin s.heap _ _ fun _ _ e => e)
  | str x =>
    cases hd
    obtain ⟨t, e⟩ := (show ∃ t, u = Value.str x t from ru)
    subst e
    exact PySem.P.repr_of_str (fin s.heap _ _ fun _ _ e => e) (by simpa [PyData.shown] using hz)
  | byt b => cases hd
  | flt b => cases hd
  | ty n => cases hd
end
end Gr
set_option Elab.async false
set_option maxRecDepth 100000
set_option maxHeartbeats 4000000
set_option linter.all false
/-! Ours: all(..) of a generator expression over a text's signs whose element may read names of the module. -/
namespace Gr
open PySem PySem.Spec PyProof.Rows L2 GxR
section
variable {X : Cx} {pins : List (Addr × Obj)} {σ : L2.St} {H : Hp} {s : Shared}
/-- the code of a generator expression, and the built-ins it sees, behind an iterator that was just made -/
theorem code_then {c P : Addr} {ps : Array Value} {o : Obj} {scope : Scope} {q : Str} {gpos : Pos} {E : Value → Shared → Prop} {R : Value → Addr → Shared → Prop} (I : Inv X pins σ H s)
    (TB : TabB X.base X.mg c P) (hcode : X.env.code = .ref c) (hP : H P = some (.tbl ps)) (ht : TriplesOk ps.toList)
    (h : ∀ (cv : Value) (k : Heap) (tk : Nat) (more : Array Value), (∀ b u, b ≠ P → (s.heap.push o).get? b = some u → k.get? b = some u) → s.heap.objs.size < k.objs.size → k.get? P = some { cls := .none, data := .fields (ps ++ more) } → TriplesOk (ps ++ more).toList → k.NoLimit →
      R cv builtinsNs { s with heap := k, toks := tk }) :
    wpAny (model X.prog X.w) X.A (genexprCode X.env gpos q scope) (fun cv z => wpAny (model X.prog X.w) X.A (builtinsFor X.env.globals X.env.builtins) (fun bi z' => R cv bi z') E z) E { s with heap := s.heap.push o } := by
  have p0 : s.heap.get? P = some { cls := .none, data := .fields ps } := I.hok P _ hP
  have p1 : (s.heap.push o).get? P = some { cls := .none, data := .fields ps } := Heap.get?_push_of_some _ p0
  have cd : PySem.W.CodeHd (s.heap.push o) c P := TB.code.keeps fun b u e => Heap.get?_push_of_some _ (I.bk b u e)
  have lim : (s.heap.push o).NoLimit := I.nolimit.push o
  have nP : cStatics ≠ P := by
    obtain ⟨_, ⟨o', es, ep, ho, hd, _⟩, _⟩ := I.nolimit
    intro e
    rw [e, p0] at ho
    cases ho
    cases hd
  have last : ∀ (cv : Value) (k : Heap) (tk : Nat) (more : Array Value), Heap.ExtBut P (s.heap.push o) k → (s.heap.push o).objs.size ≤ k.objs.size → k.get? P = some { cls := .none, data := .fields (ps ++ more) } → TriplesOk (ps ++ more).toList →
      wpAny (model X.prog X.w) X.A (builtinsFor X.env.globals X.env.builtins) (fun bi z' => R cv bi z') E { s with heap := k, toks := tk } := by
    intro cv k tk more hx hs hp ht'
    obtain ⟨bm, ob, e1, e2, e3, e4, e5, e6, e7, e8⟩ := TB.bm
    have up : ∀ b u, b ≠ P → s.heap.get? b = some u → k.get? b = some u := fun b u n e => hx b u n (Heap.get?_push_of_some _ e)
    have g : k.Ns X.env.globals X.mg := by
      rw [I.ok.glob]
      exact ((I.mod.glob.keeps I.bk).push o).extBut hx TB.gP
    refine wpAny_builtinsFor g e1 e2 (up _ _ e4 (I.bk _ _ e5)) e6 e7 e8 (h cv k tk more hx ?_ hp ht' (lim.extBut hx nP))
    rw [Heap.size_push] at hs
    exact hs
  cases hf : codeAmong gpos ps.toList with
  | none =>
    refine wpAny_genexprCodeX hcode (cd.code p1 ht) (cd.tab p1) hf fun c' k tk hx hge hlt hco _ htab _ => ?_
    obtain ⟨_, _, _, _, _, _, _, _, _, _, _, _, _, _, _, _, _, _, _, htr, _⟩ := hco
    exact last _ k tk _ hx (Nat.le_of_lt (Nat.lt_of_le_of_lt hge hlt)) htab.2 htr
  | some cv =>
    refine wpAny_genexprCode_hit hcode (cd.code p1 ht) hf ?_
    have e : ps ++ #[] = ps := by simp
    exact last cv (s.heap.push o) s.toks #[] (fun b u _ e => e) (Nat.le_refl _) (by rw [e]; exact p1) (by rw [e]; exact ht)
end
end Gr
set_option Elab.async false
set_option maxRecDepth 100000
set_option maxHeartbeats 4000000
set_option linter.all false
/-! Ours: enumerate over a text, with or without a start told by its name; o.f |= e; a def called with keywords alone. -/
namespace Gr
open PySem PySem.Spec PyProof.Rows L2
/-! ### o.f |= e -/
/-! ### f(k = e, ..) -/
end Gr
set_option Elab.async false
set_option maxRecDepth 100000
set_option maxHeartbeats 2000000
set_option linter.all false
/-! Ours: quiet code: expressions and small defs over data that leave all that stood as it was, whatever frames run around. -/
namespace Gr
open PySem PySem.Spec PyProof.Rows L2 GxR
/-- the value holds the data -/
def Vd (h : Heap) (v : Value) (d : PyData) : Prop := ∃ as, Reads h v d as
theorem Vd.up {h h' : Heap} {v : Value} {d : PyData} (r : Vd h v d) (k : ∀ b o, h.get? b = some o → h'.get? b = some o) : Vd h' v d := let ⟨as, r⟩ := r; ⟨as, PyProof.Rows.Reads.keeps k r⟩
inductive VdAll (h : Heap) : List Value → List PyData → Prop
  | nil : VdAll h [] []
  | cons {v : Value} {vs : List Value} {d : PyData} {ds : List PyData} : Vd h v d → VdAll h vs ds → VdAll h (v :: vs) (d :: ds)
theorem VdAll.up {h h' : Heap} (k : ∀ b o, h.get? b = some o → h'.get? b = some o) : ∀ {vs : List Value} {ds : List PyData}, VdAll h vs ds → VdAll h' vs ds
  | _, _, .nil => .nil
  | _, _, .cons a b => .cons (a.up k) (VdAll.up k b)
theorem VdAll.len {h : Heap} : ∀ {vs : List Value} {ds : List PyData}, VdAll h vs ds → vs.length = ds.length
  | _, _, .nil => rfl
  | _, _, .cons _ b => congrArg (· + 1) (VdAll.len b)
theorem VdAll.get {h : Heap} : ∀ {vs : List Value} {ds : List PyData}, VdAll h vs ds → ∀ {i : Nat} {d : PyData}, ds[i]? = some d → ∃ v, vs[i]? = some v ∧ Vd h v d
  | _, _, .nil, i, d, e => by cases e
  | _, _, .cons a b, 0, d, e => by cases e; exact ⟨_, rfl, a⟩
  | _, _, .cons a b, i + 1, d, e => VdAll.get b e
theorem vd_all {h : Heap} : ∀ {vs : List Value} {ds : List PyData} {as : List Addr}, ReadsAll h vs ds as → VdAll h vs ds
  | _, _, _, .nil => .nil
  | _, _, _, .cons a b => .cons ⟨_, a⟩ (vd_all b)
theorem kk {s s' : Shared} (k : Keeps s s') : ∀ b o, s.heap.get? b = some o → s'.heap.get? b = some o := by
  obtain ⟨h', tk, rfl, q⟩ := k
  exact q
theorem kt {s s' s'' : Shared} (k : Keeps s s') (k' : Keeps s' s'') : Keeps s s'' := by
  obtain ⟨h', tk, rfl, q⟩ := k
  obtain ⟨h2, t2, rfl, q2⟩ := k'
  exact ⟨h2, t2, rfl, fun b o e => q2 b o (q b o e)⟩
theorem Keeps.ns {s s' : Shared} (k : Keeps s s') {L : Addr} {m : Str → Option Value} (h : s.heap.Ns L m) : s'.heap.Ns L m := h.keeps (kk k)
/-- where quiet code stands -/
structure Qc (K : PySem.W.Frag) (mg : Str → Option Value) (base : Heap) (env : Env) : Prop where
  mod : Mod K mg base
  kind : env.scope.kind = .function
  glob : env.globals = mainGlobals
  blt : env.builtins = builtinsNs
/-- what quiet code asks of the state that it runs in -/
structure Qs (base h0 : Heap) (k : Nat) (env : Env) (m : Str → Option Value) (B : Around) (z : Shared) : Prop where
  room : Room k B
  bs : ∀ b o, base.get? b = some o → z.heap.get? b = some o
  up : ∀ b o, h0.get? b = some o → z.heap.get? b = some o
  ns : z.heap.Ns env.locals m
theorem Qs.next {base h0 : Heap} {k : Nat} {env : Env} {m : Str → Option Value} {B : Around} {z z' : Shared} (q : Qs base h0 k env m B z) (e : Keeps z z') : Qs base h0 k env m B z' :=
  ⟨q.room, fun b o x => kk e b o (q.bs b o x), fun b o x => kk e b o (q.up b o x), Keeps.ns e q.ns⟩
section
variable {P : Program} {w : World} {K : PySem.W.Frag} {mg : Str → Option Value} {base h0 : Heap} {k : Nat} {env : Env} {m : Str → Option Value}
/-- e tells d -/
def QE (P : Program) (w : World) (base h0 : Heap) (k : Nat) (env : Env) (m : Str → Option Value) (e : Expr) (d : PyData) : Prop :=
  ∀ (B : Around) (E : Value → Shared → Prop) (z : Shared), Qs base h0 k env m B z → wpAny (model P w) B (eval e env) (fun y z' => Vd z'.heap y d ∧ Keeps z z') E z
def QEs (P : Program) (w : World) (base h0 : Heap) (k : Nat) (env : Env) (m : Str → Option Value) (es : List Expr) (ds : List PyData) : Prop :=
  ∀ (B : Around) (E : Value → Shared → Prop) (z : Shared) (pos : Pos), Qs base h0 k env m B z → wpAny (model P w) B (spliced (backTo pos (starEach es env))) (fun us z' => VdAll z'.heap us ds ∧ Keeps z z') E z
theorem vd_bool {h : Heap} {y : Value} {b : Bool} (r : Vd h y (.bool b)) : y = .bool b := by
  obtain ⟨as, r⟩ := r
  cases r
  rfl
theorem vd_int {h : Heap} {y : Value} {i : Int} (r : Vd h y (.int i)) : ∃ t, y = .int i t := by
  obtain ⟨as, r⟩ := r
  cases r
  exact ⟨_, rfl⟩
theorem vd_tup {h : Heap} {y : Value} {ds : List PyData} (r : Vd h y (.tuple ds)) : ∃ t its, y = .ref t ∧ IsTup h t its ∧ VdAll h its.toList ds := by
  obtain ⟨as, r⟩ := r
  cases r with
  | tuple h1 h2 h3 h4 => exact ⟨_, _, rfl, ⟨_, h1, h2, _, h3⟩, vd_all h4⟩
theorem qe_name {x : Str} {p : Pos} {v : Value} {d : PyData} (C : Qc K mg base env) (hl : env.scope.names.lookup x = some .local) (hm : m x = some v) (hv : Vd h0 v d) (hd : (x == ("__debug__" : Str)) = false := by decide) :
    QE P w base h0 k env m (.Name x p) d := fun B E z q =>
  wpAny_Name (wpAny_loadName_local C.kind hl q.ns hm ⟨hv.up q.up, keeps_refl _⟩) hd
theorem qe_int {i : Int} {j : Nat} {p : Pos} : QE P w base h0 k env m (.Constant (.int i) j p) (.int i) := fun B E z q =>
  wpAny_Constant_int ⟨⟨_, .int _ _⟩, keeps_tok _ _⟩
theorem q_glob {B : Around} {E : Value → Shared → Prop} {z : Shared} {x : Str} {u : Value} {p : Pos} {Q : Value → Shared → Prop} (C : Qc K mg base env) (q : Qs base h0 k env m B z) (hg : env.scope.names.lookup x = some .globalImplicit) (hm : mg x = some u) (h : Q u z) (hd : (x == ("__debug__" : Str)) = false := by decide) :
    wpAny (model P w) B (eval (.Name x p) env) Q E z :=
  Calls.Name_function_global C.kind hg (Calls.loadGlobal_global (by rw [C.glob]; exact C.mod.glob.keeps q.bs) hm h) hd
theorem q_blt {B : Around} {E : Value → Shared → Prop} {z : Shared} {x : Str} {u : Value} {p : Pos} {Q : Value → Shared → Prop} (C : Qc K mg base env) (q : Qs base h0 k env m B z) (hg : env.scope.names.lookup x = some .globalImplicit) (hm : mg x = none) (hv : bootBuiltins x = some u) (h : Q u z)
    (hn : x ≠ "__name__" := by decide) (hd : (x == ("__debug__" : Str)) = false := by decide) : wpAny (model P w) B (eval (.Name x p) env) Q E z := by
  obtain ⟨mb, h1, h2⟩ := C.mod.blt
  exact Calls.Name_function_global C.kind hg (Calls.loadGlobal_builtin (by rw [C.glob]; exact C.mod.glob.keeps q.bs) hm (by rw [C.blt]; exact h1.keeps q.bs) ((h2 x hn).trans hv) h) hd
/-- a whole number of the module -/
theorem qe_gint {x : Str} {p : Pos} {i : Int} {t : Tok} (C : Qc K mg base env) (hg : env.scope.names.lookup x = some .globalImplicit) (hm : mg x = some (.int i t)) (hd : (x == ("__debug__" : Str)) = false := by decide) :
    QE P w base h0 k env m (.Name x p) (.int i) := fun B E z q => q_glob C q hg hm ⟨⟨_, .int _ _⟩, keeps_refl _⟩ hd
theorem qes_nil : QEs P w base h0 k env m [] [] := fun B E z pos q => Calls.spliced_nil ⟨.nil, keeps_refl _⟩
theorem qes_cons {e : Expr} {es : List Expr} {d : PyData} {ds : List PyData} (h1 : QE P w base h0 k env m e d) (h2 : QEs P w base h0 k env m es ds) (hs : starEach (e :: es) env = (false, eval e env) :: starEach es env := by rfl) :
    QEs P w base h0 k env m (e :: es) (d :: ds) := by
  intro B E z pos q
  rw [hs]
  show wpAny _ _ (spliced ((false, eval e env) :: backTo pos (starEach es env))) _ _ z
  refine Calls.spliced_cons (thn (h1 B E z q) fun u z1 ⟨r1, k1⟩ => ?_)
  exact thn (h2 B E z1 pos (q.next k1)) fun us z2 ⟨r2, k2⟩ => ⟨.cons (r1.up (kk k2)) r2, kt k1 k2⟩
/-- isinstance(e, T) -/
theorem qe_isi {e : Expr} {T : Str} {T' : String} {p1 p2 pos : Pos} {d : PyData} {f : PyData → Bool} (C : Qc K mg base env) (he : QE P w base h0 k env m e d) (hg : env.scope.names.lookup ("isinstance" : Str) = some .globalImplicit) (hm : mg "isinstance" = none)
    (hgT : env.scope.names.lookup T = some .globalImplicit) (hmT : mg T = none) (hvT : bootBuiltins T = some (.type T')) (hT1 : T ≠ "__name__") (hT2 : (T == ("__debug__" : Str)) = false)
    (hi : ∀ {A : Around} {E : Value → Shared → Prop} {s : Shared} {v : Value} {d : PyData} {as : List Addr} {Q : Value → Shared → Prop}, Reads s.heap v d as → (∀ tk, s.toks ≤ tk → Q (.bool (f d)) { s with toks := tk }) → wpAny (model P w) A (call (.builtin "isinstance") [v, .type T']) Q E s)
    (hb : bootBuiltins "isinstance" = some (.builtin "isinstance") := by decide +kernel)
    (hs : starEach [e, .Name T p2] env = (false, eval e env) :: starEach [.Name T p2] env := by rfl) (hs2 : starEach [.Name T p2] env = (false, eval (.Name T p2) env) :: starEach [] env := by rfl)
    (hpl : (backTo pos (starEach [.Name T p2] env)).any (·.1) = false := by rfl) :
    QE P w base h0 k env m (.Call (.Name "isinstance" p1) [e, .Name T p2] [] pos) (.bool (f d)) := by
  intro B E z q
  refine wpAny_Call_Name_kw (q_blt C q hg hm hb (PyProof.Rows.callWith_builtin1 ?_ hs hpl))
  rw [hs]
  show wpAny _ _ (spliced ((false, eval e env) :: backTo pos (starEach [.Name T p2] env))) _ _ z
  refine Calls.spliced_cons (thn (he B E z q) fun u z1 ⟨r1, k1⟩ => ?_)
  rw [hs2]
  show wpAny _ _ (spliced ((false, eval (.Name T p2) env) :: backTo pos (starEach [] env))) _ _ z1
  refine Calls.spliced_cons (q_blt C (q.next k1) hgT hmT hvT (Calls.spliced_nil ?_) hT1 hT2)
  obtain ⟨as, r1⟩ := r1
  exact hi r1 fun tk _ => ⟨⟨_, .bool _⟩, kt k1 (keeps_tok _ _)⟩
/-- len(e), e a tuple -/
theorem qe_len {e : Expr} {p1 pos : Pos} {ds : List PyData} (C : Qc K mg base env) (he : QE P w base h0 k env m e (.tuple ds)) (hg : env.scope.names.lookup ("len" : Str) = some .globalImplicit) (hm : mg "len" = none) (hl : ds.length ≤ sizeLine)
    (hs : starEach [e] env = (false, eval e env) :: starEach [] env := by rfl) (hpl : (backTo pos (starEach [] env)).any (·.1) = false := by rfl) :
    QE P w base h0 k env m (.Call (.Name "len" p1) [e] [] pos) (.int ds.length) := by
  intro B E z q
  refine wpAny_Call_Name_kw (q_blt C q hg hm PySem.boot_len (PyProof.Rows.callWith_builtin1 ?_ hs hpl))
  rw [hs]
  show wpAny _ _ (spliced ((false, eval e env) :: backTo pos (starEach [] env))) _ _ z
  refine Calls.spliced_cons (thn (he B E z q) fun u z1 ⟨r1, k1⟩ => Calls.spliced_nil ?_)
  obtain ⟨t, its, rfl, ht, ha⟩ := vd_tup r1
  have hn := line63
  have hz : its.size = ds.length := by
    have := ha.len
    rw [← this, Array.length_toList]
  refine len_tuple ht (by rw [hz]; omega) ⟨?_, kt k1 (keeps_tok _ _)⟩
  rw [hz]
  exact ⟨_, .int _ _⟩
/-- e[i] -/
theorem qe_ix {e : Expr} {i : Nat} {j : Nat} {p pos : Pos} {ds : List PyData} {d : PyData} (he : QE P w base h0 k env m e (.tuple ds)) (hi : ds[i]? = some d) (hl : ds.length ≤ sizeLine) : QE P w base h0 k env m (.Subscript e (.Constant (.int i) j p) pos) d := by
  intro B E z q
  refine Subscript_ (thn (he B E z q) fun u z1 ⟨r1, k1⟩ => wpAny_Constant_int ?_)
  obtain ⟨t, its, rfl, ht, ha⟩ := vd_tup r1
  have hn := line63
  have hz : its.size = ds.length := by
    have := ha.len
    rw [← this, Array.length_toList]
  obtain ⟨hi1, _⟩ := List.getElem?_eq_some_iff.mp hi
  obtain ⟨v, hv, rv⟩ := ha.get hi
  have hv' : its[i]? = some v := by rw [← Array.getElem?_toList]; exact hv
  have hj : seqIndex? (i : Int) its.size = some i := by
    unfold seqIndex?
    have h1 : ¬ ((i : Int) < 0) := by omega
    have h2 : (0 : Int) ≤ (i : Int) ∧ (i : Int) < (its.size : Int) := by omega
    simp [h1, h2]
  refine subscriptTail_builtinR (x := v) ht.typeIs slot_tuple_getitem.lookup (getItem_tuple (j := i) (Q := fun r s' => r = v ∧ (Vd s'.heap r d ∧ Keeps z s')) ht (by omega) (by omega) hj hv' ⟨rfl, rv, kt k1 (keeps_tok _ _)⟩)
/-- a op b of whole numbers -/
theorem qe_cmp {a b : Expr} {op : CmpOp} {i j : Int} {c : Int → Int → Bool} {pos : Pos} (ha : QE P w base h0 k env m a (.int i)) (hb : QE P w base h0 k env m b (.int j))
    (ho : ∀ {A : Around} {E : Value → Shared → Prop} {s : Shared} {t u : Tok} {Q : Value → Shared → Prop}, Q (.bool (c i j)) s → wpAny (model P w) A (compareOp op (.int i t) (.int j u)) Q E s) (hm : behindInMarks op b = false := by with_unfolding_all rfl) :
    QE P w base h0 k env m (.Compare a [op] [b] pos) (.bool (c i j)) := by
  intro B E z q
  refine wpAny_Compare1 (thn (ha B E z q) fun u z1 ⟨r1, k1⟩ => thn (hb B E z1 (q.next k1)) fun v z2 ⟨r2, k2⟩ => ?_) hm
  obtain ⟨t, rfl⟩ := vd_int r1
  obtain ⟨t', rfl⟩ := vd_int r2
  exact ho ⟨⟨_, .bool _⟩, kt k1 k2⟩
/-- a op b op' c -/
theorem qe_chain {a b c : Expr} {op op' : CmpOp} {i j l : Int} {f g : Int → Int → Bool} {pos : Pos} (ha : QE P w base h0 k env m a (.int i)) (hb : QE P w base h0 k env m b (.int j)) (hc : QE P w base h0 k env m c (.int l))
    (ho : ∀ {A : Around} {E : Value → Shared → Prop} {s : Shared} {t u : Tok} {Q : Value → Shared → Prop}, Q (.bool (f i j)) s → wpAny (model P w) A (compareOp op (.int i t) (.int j u)) Q E s)
    (ho' : ∀ {A : Around} {E : Value → Shared → Prop} {s : Shared} {t u : Tok} {Q : Value → Shared → Prop}, Q (.bool (g j l)) s → wpAny (model P w) A (compareOp op' (.int j t) (.int l u)) Q E s)
    (hm : lastMarks [op, op'] [b, c] = false := by with_unfolding_all rfl) : QE P w base h0 k env m (.Compare a [op, op'] [b, c] pos) (.bool (f i j && g j l)) := by
  intro B E z q
  refine Compare_chain (thn (ha B E z q) fun u z1 ⟨r1, k1⟩ => chain_link (thn (hb B E z1 (q.next k1)) fun v z2 ⟨r2, k2⟩ => ?_)) hm
  obtain ⟨t, rfl⟩ := vd_int r1
  obtain ⟨t', rfl⟩ := vd_int r2
  refine ho (wpAny_truthy_bool ?_)
  cases f i j with
  | false => exact ite_ff ⟨⟨_, .bool _⟩, kt k1 k2⟩
  | true =>
    refine ite_tt (chain_last (thn (hc B E z2 ((q.next k1).next k2)) fun x z3 ⟨r3, k3⟩ => ?_))
    obtain ⟨t3, rfl⟩ := vd_int r3
    refine ho' ⟨?_, kt k1 (kt k2 k3)⟩
    rw [Bool.true_and]
    exact ⟨_, .bool _⟩
theorem qe_one {e : Expr} {op : BoolOp} {pos : Pos} {d : PyData} (h : QE P w base h0 k env m e d) : QE P w base h0 k env m (.BoolOp op [e] pos) d := fun B E z q => BoolOp_one (h B E z q)
theorem qe_and {a b : Expr} {rest : List Expr} {x y : Bool} {pos : Pos} (ha : QE P w base h0 k env m a (.bool x)) (hb : x = true → QE P w base h0 k env m (.BoolOp .And (b :: rest) pos) (.bool y)) :
    QE P w base h0 k env m (.BoolOp .And (a :: b :: rest) pos) (.bool (x && y)) := by
  intro B E z q
  refine BoolOp_and (thn (ha B E z q) fun u z1 ⟨r1, k1⟩ => ?_)
  cases vd_bool r1
  refine wpAny_truthy_bool ?_
  cases x with
  | false => exact ite_ff ⟨⟨_, .bool _⟩, k1⟩
  | true => exact ite_tt (thn (hb rfl B E z1 (q.next k1)) fun v z2 ⟨r2, k2⟩ => ⟨r2, kt k1 k2⟩)
theorem qe_or {a b : Expr} {rest : List Expr} {x y : Bool} {pos : Pos} (ha : QE P w base h0 k env m a (.bool x)) (hb : x = false → QE P w base h0 k env m (.BoolOp .Or (b :: rest) pos) (.bool y)) :
    QE P w base h0 k env m (.BoolOp .Or (a :: b :: rest) pos) (.bool (x || y)) := by
  intro B E z q
  refine BoolOp_or (thn (ha B E z q) fun u z1 ⟨r1, k1⟩ => ?_)
  cases vd_bool r1
  refine wpAny_truthy_bool ?_
  cases x with
  | true => exact ite_tt ⟨⟨_, .bool _⟩, k1⟩
  | false => exact ite_ff (thn (hb rfl B E z1 (q.next k1)) fun v z2 ⟨r2, k2⟩ => ⟨r2, kt k1 k2⟩)
theorem qe_not {a : Expr} {x : Bool} {pos : Pos} (ha : QE P w base h0 k env m a (.bool x)) : QE P w base h0 k env m (.UnaryOp .Not a pos) (.bool (!x)) := by
  intro B E z q
  refine UnaryOp_ (thn (ha B E z q) fun u z1 ⟨r1, k1⟩ => ?_)
  cases vd_bool r1
  exact not_of (wpAny_truthy_bool ⟨⟨_, .bool _⟩, k1⟩)
end
/-- a quiet def: whatever runs around, it tells d of the data ds -/
structure QF (P : Program) (w : World) (K : PySem.W.Frag) (mg : Str → Option Value) (base : Heap) (k : Nat) (f : Addr) (fd : FuncData) (ps : List Str) (pre : List PyData → PyData → Prop) : Prop where
  len : ∀ ds d, pre ds d → ds.length = ps.length
  run : ∀ (B : Around) (z : Shared) (args : Args) (us : List Value) (ds : List PyData) (d : PyData), Room k B → (∀ b o, base.get? b = some o → z.heap.get? b = some o) → BindsTo z fd args (ps.zip us) → VdAll z.heap us ds → pre ds d →
    codeAny (model P w) B (.call (.ref f) args) (fun r z' => ∃ y, r = .ok (.ret y) ∧ Vd z'.heap y d ∧ Keeps z z') z
section
variable {P : Program} {w : World} {K : PySem.W.Frag} {mg : Str → Option Value} {base : Heap}
/-- a def of one return, by its expression -/
theorem qf_of {k : Nat} {x ql : Str} {st : Stmt} {f : Addr} {fd : FuncData} {ps : List Str} {pre : List PyData → PyData → Prop} {e : Expr} {pos : Pos} (M : Mod K mg base) (F : Fun K x ql st f fd) (S : FnScope ps ps (defScope st)) (loc : ∀ y ∈ ps, (defScope st).names.lookup y = some .local) (bd : defBody st = [.Return (some e) pos])
    (len : ∀ ds d, pre ds d → ds.length = ps.length)
    (hb : ∀ (env : Env) (m : Str → Option Value) (h0 : Heap) (us : List Value) (ds : List PyData) (d : PyData), env.scope = defScope st → Qc K mg base env → (∀ (i : Nat) (y : Str) (v : Value), ps[i]? = some y → us[i]? = some v → m y = some v) → VdAll h0 us ds → pre ds d → QE P w base h0 k env m e d) :
    QF P w K mg base (k + 1) f fd ps pre := by
  refine ⟨len, fun B z args us ds d hr hbs hbi hv hp => ?_⟩
  obtain ⟨oc, od, kV, doc, pm, an, cdv, ct, osl, rfl, lk, hcd⟩ := F.ex
  have KX : K.In z.heap := M.kin.keeps hbs
  have lim : z.heap.NoLimit := M.nolimit.keeps hbs
  have hlen := len _ _ hp
  have hul : us.length = ps.length := hv.len.trans hlen
  refine codeAny_call_function hr.depth (KX _ _ lk) rfl S.co S.gen rfl (PySem.W.codeRec_of KX hcd) (hbi _ _ _ _ ?_)
  refine wpAny_newFunctionEnv_cells S.kind (fun ⟨n, v⟩ hy => .inl (loc n (List.of_mem_zip hy).1)) fun env he s1 x => ?_
  subst he
  refine ⟨lim.keeps x.toInCall.keep, codeAny_func ?_⟩
  have hk : Keeps z s1 := x.done
  show wpAny _ _ (execs (defBody st) _) _ _ s1
  rw [bd]
  refine wpAny_execs_cons (wpAny_Return_some ?_)
  refine thn (hb _ _ z.heap us ds d rfl ⟨M, S.kind, rfl, rfl⟩ (fun i y v h1 h2 => bindL_get S.nd h1 h2 (loc y (List.mem_of_getElem? h1))) hv hp (B.deeper _) _ s1 ⟨hr.deeper _, fun b o q => kk hk b o (hbs b o q), kk hk, x.toInCall.ns⟩) fun y z2 ⟨r2, k2⟩ => ?_
  exact ⟨y, rfl, r2, kt hk k2⟩
/-- f(e, ..) of a quiet def -/
theorem qe_call {h0 : Heap} {k : Nat} {env : Env} {m : Str → Option Value} {x : Str} {f : Addr} {fd : FuncData} {ps : List Str} {pre : List PyData → PyData → Prop} {e : Expr} {es : List Expr} {ds : List PyData} {d : PyData} {p pos : Pos} (C : Qc K mg base env) (F : QF P w K mg base k f fd ps pre)
    (hg : env.scope.names.lookup x = some .globalImplicit) (hm : mg x = some (.ref f)) (hk : PySem.W.keepIn K (.ref f) = true) (hb : Binds K fd ps []) (ha : QEs P w base h0 k env m (e :: es) ds) (hp : pre ds d) (hdb : (x == ("__debug__" : Str)) = false := by decide)
    (he : starEach (e :: es) env = (false, eval e env) :: starEach es env := by rfl) (hpl : (backTo pos (starEach es env)).any (·.1) = false := by rfl) : QE P w base h0 k env m (.Call (.Name x p) (e :: es) [] pos) d := by
  intro B E z q
  refine wpAny_Call_Name_kw (q_glob C q hg hm (PySem.W.callWith_K (h₀ := base) C.mod.kin hk (thn (ha B E z pos q) fun us z1 ⟨r1, k1⟩ => ⟨C.mod.kin.keeps (q.next k1).bs, ?_⟩) he hpl) hdb)
  have hl : (us ++ []).length = ps.length := by
    rw [List.append_nil, r1.len]
    exact F.len _ _ hp
  refine wpAny_call (codeAny_mono (F.run B z1 ⟨us, []⟩ (us ++ []) ds d q.room (q.next k1).bs (hb z1 us (C.mod.kin.keeps (q.next k1).bs) hl) (by rw [List.append_nil]; exact r1) hp) fun r z2 h => ?_)
  obtain ⟨y, rfl, r2, k2⟩ := h
  exact ⟨r2, kt k1 k2⟩
end
end Gr
set_option Elab.async false
set_option maxRecDepth 100000
set_option maxHeartbeats 2000000
set_option linter.all false
/-! Ours: all(..), any(..) of a generator expression over a tuple whose element is quiet: it may call quiet defs. -/
namespace Gr
open PySem PySem.Spec PyProof.Rows L2 GxR
mutual
/-- data that is read does not stand at an object that is of no class -/
theorem reads_but {h h' : Heap} {P : Addr} {o0 : Obj} (k : ∀ b o, b ≠ P → h.get? b = some o → h'.get? b = some o) (p0 : h.get? P = some o0) (c0 : o0.cls = .none) : ∀ {v : Value} {d : PyData} {as : List Addr}, Reads h v d as → Reads h' v d as
  | _, _, _, .none => .none
  | _, _, _, .bool b => .bool b
  | _, _, _, .int i t => .int i t
  | _, _, _, .str x t => .str x t
  | _, _, _, .list h1 h2 h3 h4 => .list (k _ _ (fun e => by rw [e, p0] at h1; cases h1; rw [c0] at h2; cases h2) h1) h2 h3 (readsAll_but k p0 c0 h4)
  | _, _, _, .tuple h1 h2 h3 h4 => .tuple (k _ _ (fun e => by rw [e, p0] at h1; cases h1; rw [c0] at h2; cases h2) h1) h2 h3 (readsAll_but k p0 c0 h4)
  | _, _, _, .dict h1 h2 h3 h4 h5 => .dict (k _ _ (fun e => by rw [e, p0] at h1; cases h1; rw [c0] at h2; cases h2) h1) h2 h3 (readsAll_but k p0 c0 h4) (readsAll_but k p0 c0 h5)
theorem readsAll_but {h h' : Heap} {P : Addr} {o0 : Obj} (k : ∀ b o, b ≠ P → h.get? b = some o → h'.get? b = some o) (p0 : h.get? P = some o0) (c0 : o0.cls = .none) : ∀ {vs : List Value} {ds : List PyData} {as : List Addr}, ReadsAll h vs ds as → ReadsAll h' vs ds as
  | _, _, _, .nil => .nil
  | _, _, _, .cons a b => .cons (reads_but k p0 c0 a) (readsAll_but k p0 c0 b)
end
/-- a tuple's length has a bound -/
def szD : PyData → Prop
  | .tuple es => es.length ≤ sizeLine
  | _ => True
theorem DqAll.len {K : PySem.W.Frag} {H : Hp} {vs : List V} {ds : List PyData} (h : DqAll K H vs ds) : vs.length = ds.length :=
  DqAll.rec (motive_1 := fun _ _ _ => True) (motive_2 := fun vs ds _ => vs.length = ds.length) trivial (fun _ => trivial) (fun _ => trivial) (fun _ => trivial) (fun _ _ _ => trivial) (fun _ _ _ => trivial) (fun _ _ _ _ _ => trivial) rfl (fun _ _ _ ih => congrArg (· + 1) ih) h
/-- the element over the data d -/
def EltD (X : Cx) (k : Nat) (scope : Scope) (x : Str) (elt : Expr) (pb : PyData → Bool) : Prop :=
  ∀ (en : Env) (m : Str → Option Value) (h0 : Heap) (v : Value) (d : PyData), en.scope = scope → Qc X.K X.mg X.base en → m x = some v → Vd h0 v d → szD d → QE X.prog X.w X.base h0 k en m elt (.bool (pb d))
def trD (pb : PyData → Bool) (l : List PyData) (j : Nat) : Bool := match l[j]? with
  | some d => pb d
  | none => false
theorem trD_all (pb : PyData → Bool) : ∀ l : List PyData, (List.range l.length).all (trD pb l) = l.all pb
  | [] => rfl
  | d :: l => by
    have e : (d :: l).length = l.length + 1 := rfl
    rw [e, List.range_succ_eq_map, List.all_cons, List.all_map, List.all_cons, ← trD_all pb l]
    rfl
theorem trD_any (pb : PyData → Bool) : ∀ l : List PyData, (List.range l.length).any (trD pb l) = l.any pb
  | [] => rfl
  | d :: l => by
    have e : (d :: l).length = l.length + 1 := rfl
    rw [e, List.range_succ_eq_map, List.any_cons, List.any_map, List.any_cons, ← trD_any pb l]
    rfl
section
variable {X : Cx} {pins : List (Addr × Obj)} {σ : L2.St} {H : Hp} {s : Shared}
theorem Dq.sz (I : Inv X pins σ H s) {v : V} {d : PyData} (h : Dq X.K H v d) : szD d := by
  cases h with
  | tup hs ha =>
    obtain ⟨its, r, pl, hz⟩ := I.tuple hs
    show _ ≤ sizeLine
    rw [← ha.len]
    exact hz
  | _ => trivial
theorem DqAll.szs (I : Inv X pins σ H s) {vs : List V} {ds : List PyData} (h : DqAll X.K H vs ds) : ∀ d ∈ ds, szD d :=
  DqAll.rec (motive_1 := fun v d _ => szD d) (motive_2 := fun vs ds _ => ∀ d ∈ ds, szD d) trivial (fun _ => trivial) (fun _ => trivial) (fun _ => trivial) (fun _ _ _ => trivial) (fun hs ha _ => Dq.sz I (.tup hs ha)) (fun _ _ _ _ _ => trivial) (fun d hd => nomatch hd)
    (fun _ _ i1 i2 d hd => by
      rcases List.mem_cons.mp hd with e | e
      · rw [e]; exact i1
      · exact i2 d e) h
/-- the generator g over the data ds, ready to be walked -/
def ReadyD (X : Cx) (pins : List (Addr × Obj)) (σ : L2.St) (H1 : Hp) (P : Addr) (ds : List PyData) (pb : PyData → Bool) (g : Addr) (s5 : Shared) : Prop :=
  ∃ (fp wr : List Addr) (G : Array GenState → Array GenState → Prop) (F : Nat → Value → Prop) (S : Nat → Shared → Prop),
    WalksS X.prog X.w X.A.in1 g fp wr G ds.length F S ∧ S 0 s5 ∧ TruthOf X.prog X.w X.A.in1 F (trD pb ds) ∧ ∀ s', Moved wr G s5 s' → ∃ H2, Tabbed P H1 H2 ∧ Inv X pins σ H2 s'
theorem genD {c P : Addr} {elt iter : Expr} {x : Str} {px gpos : Pos} {scope : Scope} {pb : PyData → Bool} {te : TE} {k : Nat} {W : Value → Shared → Prop} {R : List PyData → Hp → Prop}
    (hr : Room (k + 1) X.A) (TB : TabB X.base X.mg c P) (hcode : X.env.code = .ref c) (S : GenS X.env scope x) (hi : PE X iter te) (hel : EltD X k scope x elt pb)
    (hs : ∀ v, genFold iter X.env v = pure v) (I : Inv X pins σ H s) (h : te σ H fun v H1 => ∃ ds, Dq X.K H1 v (.tuple ds) ∧ TabG H1 P ∧ R ds H1)
    (hQ : ∀ ds H1 g z, R ds H1 → ReadyD X pins σ H1 P ds pb g z → W (.ref g) z) :
    wpAny (model X.prog X.w) X.A (eval (.GeneratorExp elt [⟨.Name x px, iter, [], 0⟩] scope gpos) X.env) W X.xe s := by
  refine wpAny_GeneratorExp_walksQD hr.hd S.co (closure_ok S.free) S.cell S.dot S.loc S.kind hr.depth (thn (hi.run pins s σ H _ I h) ?_) hs
  rintro xv s1 ⟨v, H1, I1, r1, ds, hd, ⟨ps, hP, ht⟩, q1⟩
  obtain ⟨asv, rv, _⟩ := hd.reads I1 xv r1
  obtain ⟨tt, its, rfl, hit, hva⟩ := vd_tup ⟨asv, rv⟩
  have hsz : its.size = ds.length := by rw [← hva.len, Array.length_toList]
  have szs : ∀ d ∈ ds, szD d := by
    cases hd with
    | tup hs2 ha2 => exact DqAll.szs I1 ha2
  have tlt : tt < s1.heap.objs.size := let ⟨_, e, _⟩ := hit; Heap.lt_size e
  refine wpAny_pyIter_tuple hit ⟨I1.nolimit.push _, code_then I1 TB hcode hP ht fun cv h3 tk more up lt hp ht' lim => ?_⟩
  have p0 : s1.heap.get? P = some { cls := .none, data := .fields ps } := I1.hok P _ hP
  have pl : P < s1.heap.objs.size := Heap.lt_size p0
  have at1 : ∀ b, b ∈ [s1.heap.objs.size] → b = s1.heap.objs.size := fun b hb => List.mem_singleton.mp hb
  have cl : cStatics < s1.heap.objs.size := let ⟨_, n, _⟩ := I1.nolimit; n.lt
  have tP : tt ≠ P := fun e => by
    obtain ⟨o, e1, e2, _⟩ := hit
    rw [e, p0] at e1
    cases e1
    cases e2
  have up0 : ∀ b u, b ≠ P → s1.heap.get? b = some u → h3.get? b = some u := fun b u n e => up b u n (Heap.get?_push_of_some _ e)
  have tn : tt ≠ s1.heap.objs.size := Nat.ne_of_lt tlt
  refine ⟨s1.heap.objs.size, [s1.heap.objs.size, tt], [s1.heap.objs.size], its.size, (fun i v => its[i]? = some v), (fun i h => h.IsTupleIter s1.heap.objs.size tt i ∧ h.IsTuple tt its), fun _ => true, fun i y => ∃ d, ds[i]? = some d ∧ y = .bool (pb d), rfl,
    fun A' hh => Walks.tuple hh _ _ tn its, ⟨⟨_, up _ _ (fun e => ?_) (Heap.get?_push_size _ rfl), rfl, rfl⟩, ?_⟩, fun b hb => ?_, lim, fun z => ?_, fun href hh => ?_, ?_⟩
  · rw [← e] at pl
    exact Nat.lt_irrefl _ pl
  · obtain ⟨o, e1, e2⟩ := hit
    exact ⟨o, up0 _ _ tP e1, e2⟩
  · rcases List.mem_cons.mp hb with e | e
    · rw [e]; exact lt
    · rw [List.mem_singleton.mp e]
      exact Nat.lt_trans tlt lt
  · rw [at1 _ z] at cl
    exact Nat.lt_irrefl _ cl
  · constructor
    · intro B E' i v z m _ _ _ _ _ _ _
      rw [List.forIn_nil]
      exact wpAny_pure ⟨rfl, keeps_refl _⟩
    · intro B E' i v z m hB hD hU hv _ hn hm hk
      have hi2 : i < ds.length := by
        have := (Array.getElem?_eq_some_iff.mp hv).1
        omega
      have hdi : ds[i]? = some ds[i] := List.getElem?_eq_getElem hi2
      obtain ⟨v', hv', rv'⟩ := hva.get hdi
      have ev : v' = v := by
        rw [Array.getElem?_toList, hv] at hv'
        exact (Option.some.inj hv').symm
      rw [ev] at rv'
      have keepA : ∀ b o, b ≠ P → s1.heap.get? b = some o → z.heap.get? b = some o := fun b o nb e => by
        have lb : b < s1.heap.objs.size := Heap.lt_size e
        refine hk b (List.mem_range.mpr (Nat.lt_trans lb lt)) (fun q => ?_) _ (hh _ _ (up0 b o nb e))
        rw [at1 b q] at lb
        exact Nat.lt_irrefl _ lb
      have room : Room k B := ⟨hB, by have := hr.dp; omega, by have := hr.un; omega⟩
      -- what is read of the element stands in z's heap
      have rz : Vd z.heap v ds[i] := by
        obtain ⟨as2, r2⟩ := rv'
        exact ⟨as2, reads_but keepA p0 rfl r2⟩
      refine thn (hel _ m z.heap v ds[i] rfl ⟨I1.mod, S.kind, ?_, rfl⟩ hm rz (szs _ (List.getElem_mem hi2)) B E' z ⟨room, fun b o e => ?_, fun _ _ e => e, hn⟩) fun y z' r => ⟨⟨_, hdi, vd_bool r.1⟩, r.2⟩
      · exact I1.ok.glob
      · obtain ⟨e1, e2⟩ := I1.bs b o e
        exact keepA b o (fun q => by rw [q, hP] at e2; cases e2) e1
  · intro g h5 tk5 gs gb ag sz5 k5 W5 hat
    simp only [GxR.passing_true, List.length_range] at W5
    rw [hsz] at W5 hat
    refine hQ ds H1 g _ q1 ⟨_, _, _, _, _, W5.in4_1, hat, ?_, fun s' mv => ?_⟩
    · rintro j y z Q' E' ⟨i, hij, d, hd2, rfl⟩ q
      obtain ⟨hj, ej⟩ := List.getElem?_eq_some_iff.mp hij
      rw [List.getElem_range] at ej
      cases ej
      have q' : Q' (trD pb ds j) z := q
      unfold trD at q'
      rw [hd2] at q'
      exact wpAny_truthy_bool q'
    · have nw : ∀ b u, s1.heap.get? b = some u → b ∉ h3.objs.size :: [s1.heap.objs.size] := fun b u e hb => by
        have l := Heap.lt_size e
        have l2 : s1.heap.objs.size < h3.objs.size := lt
        rcases List.mem_cons.mp hb with z | z
        · rw [z] at l
          exact Nat.lt_asymm l l2
        · rw [at1 b z] at l
          exact Nat.lt_irrefl _ l
      have J := inv_tab (more := more) (h' := s'.heap) (g' := s'.gens) (d' := s'.drawn) (t' := s'.toks) I1 hP (fun b u n e => mv.heap b u (nw b u e) (k5 b u (up0 b u n e))) (mv.heap P _ (nw P _ p0) (k5 P _ hp)) (AllBare.movedS (I1.bare.push gb) mv)
      have es : ({ s1 with heap := s'.heap, gens := s'.gens, drawn := s'.drawn, toks := s'.toks } : Shared) = s' := by
        obtain ⟨_, _, _, _, _⟩ := s'
        have := mv.os
        dsimp only at this
        rw [this]
      rw [es] at J
      exact ⟨upd H1 P (.tbl (ps ++ more)), ⟨⟨_, upd_same, ht'⟩, fun b hb => upd_ne hb⟩, J⟩
def tAllD (K : PySem.W.Frag) (P : Addr) (pb : PyData → Bool) (te : TE) : TE := fun σ H Q => te σ H fun v H1 => ∃ ds, Dq K H1 v (.tuple ds) ∧ TabG H1 P ∧ ∀ H2, Tabbed P H1 H2 → Q (.bl (ds.all pb)) H2
/-- all(elt for x in e), e a tuple of data -/
theorem pe_allD {c P : Addr} {elt iter : Expr} {x : Str} {px p pos gpos : Pos} {scope : Scope} {pb : PyData → Bool} {te : TE} {k : Nat}
    (hr : Room (k + 1) X.A) (hg : Gl X "all") (hm : X.mg "all" = none) (TB : TabB X.base X.mg c P) (hcode : X.env.code = .ref c) (S : GenS X.env scope x) (hi : PE X iter te) (hel : EltD X k scope x elt pb)
    (hs : ∀ v, genFold iter X.env v = pure v)
    (he : starEach [.GeneratorExp elt [⟨.Name x px, iter, [], 0⟩] scope gpos] X.env = (false, eval (.GeneratorExp elt [⟨.Name x px, iter, [], 0⟩] scope gpos) X.env) :: starEach [] X.env := by rfl) :
    PE X (.Call (.Name "all" p) [.GeneratorExp elt [⟨.Name x px, iter, [], 0⟩] scope gpos] [] pos) (tAllD X.K P pb te) := by
  refine ⟨fun pins s σ H Q I h => wpAny_Call_Name_kw (ld_blt I hg hm boot_all (PyProof.Rows.callWith_builtin1 ?_ he (by rfl)))⟩
  rw [he]
  show wpAny _ _ (spliced ((false, eval (.GeneratorExp elt [⟨.Name x px, iter, [], 0⟩] scope gpos) X.env) :: backTo pos (starEach [] X.env))) _ _ s
  refine Calls.spliced_cons (genD (R := fun ds H1 => ∀ H2, Tabbed P H1 H2 → Q (.bl (ds.all pb)) H2) hr TB hcode S hi hel hs I h ?_)
  rintro ds H1 g z hR ⟨fp, wr, G, F, St, W, hst, htr, hI⟩
  refine Calls.spliced_nil (call_all_walkS (W.self 0 _ _ _ hst ⟨g, fp, wr, G, _, F, St, _, rfl, W, hst, htr, fun s' mv => ?_⟩))
  obtain ⟨H2, hT, J⟩ := hI s' mv
  rw [trD_all pb ds]
  exact ⟨.bl _, H2, J, rfl, hR H2 hT⟩
end
end Gr
set_option Elab.async false
set_option maxRecDepth 100000
set_option maxHeartbeats 4000000
set_option linter.all false
/-! Ours: texts as lists of signs. -/
namespace Gr
open PySem PySem.Spec PyProof.Rows L2
theorem same_upd {H : Hp} {a : Addr} {o : HO} (h : H a = none) : Same H (upd H a o) := fun b u e => by
  rw [upd_ne (ne_of_none e h)]
  exact e
/-! slices -/
/-! heaps, comprehensions -/
theorem same_into {H H2 : Hp} {D : Addr} {o : HO} (hD : H D = none) (s : Same H H2) : Same H (upd H2 D o) := fun b u e => (upd_ne (ne_of_none e hD)).trans (s b u e)
theorem wipe1 {σ : L2.St} {j : Nat} {v : Option V} : wipe ((wipe σ [j]).set j v) [j] = wipe σ [j] := by simp [wipe]
/-! parts that only look -/
theorem and_pure {ta tb : TE} {σ : L2.St} {H : Hp} {Q : VK} (c1 c2 : Bool) (h1 : ∀ Q' : VK, Q' (.bl c1) H → ta σ H Q') (h2 : c1 = true → ∀ Q' : VK, Q' (.bl c2) H → tb σ H Q') (q : Q (.bl (c1 && c2)) H) : tAndV ta tb σ H Q := by
  refine h1 _ ⟨c1, rfl, ?_⟩
  cases c1 with
  | true => exact if_pos rfl ▸ h2 rfl _ q
  | false => exact q
end Gr
set_option Elab.async false
set_option maxRecDepth 100000
set_option maxHeartbeats 4000000
set_option linter.all false
/-! Ours: zip of a list and a tuple. -/
namespace Gr
open PySem PySem.Spec PyProof.Rows L2
theorem paired_at {α β : Type} {r : α → β → Prop} : ∀ {xs : List α} {ys : List β}, Paired r xs ys → ∀ {i : Nat} {x : α}, xs[i]? = some x → ∃ y, ys[i]? = some y ∧ r x y
  | _, _, .nil, i, x, h => by cases h
  | _, _, .cons a b, 0, x, h => ⟨_, rfl, by cases h; exact a⟩
  | _, _, .cons a b, i + 1, x, h => paired_at b h
theorem paired_len {α β : Type} {r : α → β → Prop} : ∀ {xs : List α} {ys : List β}, Paired r xs ys → xs.length = ys.length
  | _, _, .nil => rfl
  | _, _, .cons a b => congrArg (· + 1) (paired_len b)
end Gr
set_option Elab.async false
set_option maxRecDepth 100000
set_option maxHeartbeats 4000000
set_option linter.all false
/-! Ours: xs < ys of lists; (n, s) < (m, t) of tuples of an int and a text. -/
namespace Gr
open PySem PySem.Spec PyProof.Rows L2
end Gr
set_option Elab.async false
set_option maxRecDepth 100000
set_option maxHeartbeats 4000000
set_option linter.all false
/-! Ours: values of any kind as data; tables of generators, any number of them; what stands beside a well. -/
namespace Gr
open PySem PySem.Spec PyProof.Rows L2 GxR
mutual
/-- a value that is data -/
inductive Od (H : Hp) : V → PyData → Prop
  | non : Od H .non .none
  | bl (b : Bool) : Od H (.bl b) (.bool b)
  | int (i : Int) : Od H (.int i) (.int i)
  | str (x : Str) : Od H (.str x) (.str x)
  | lst {a : Addr} {xs : List V} {ds : List PyData} : H a = some (.lst xs) → OdAll H xs ds → Od H (.ref a) (.list ds)
  | tup {a : Addr} {xs : List V} {ds : List PyData} : H a = some (.tup xs) → OdAll H xs ds → Od H (.ref a) (.tuple ds)
  | dic {a : Addr} {kvs : List (Key × V)} {ds : List (PyData × PyData)} : H a = some (.dK kvs) → OdAll H (kvs.map fun p => kV p.1) (ds.map (·.1)) → OdAll H (kvs.map (·.2)) (ds.map (·.2)) → Od H (.ref a) (.dict ds)
inductive OdAll (H : Hp) : List V → List PyData → Prop
  | nil : OdAll H [] []
  | cons {v : V} {vs : List V} {d : PyData} {ds : List PyData} : Od H v d → OdAll H vs ds → OdAll H (v :: vs) (d :: ds)
end
mutual
theorem Od.same {H H' : Hp} (s : Same H H') : ∀ {v : V} {d : PyData}, Od H v d → Od H' v d
  | _, _, .non => .non
  | _, _, .bl b => .bl b
  | _, _, .int i => .int i
  | _, _, .str x => .str x
  | _, _, .lst e a => .lst (s _ _ e) (OdAll.same s a)
  | _, _, .tup e a => .tup (s _ _ e) (OdAll.same s a)
  | _, _, .dic e a b => .dic (s _ _ e) (OdAll.same s a) (OdAll.same s b)
theorem OdAll.same {H H' : Hp} (s : Same H H') : ∀ {vs : List V} {ds : List PyData}, OdAll H vs ds → OdAll H' vs ds
  | _, _, .nil => .nil
  | _, _, .cons a b => .cons (Od.same s a) (OdAll.same s b)
end
mutual
theorem Od.dq {K : PySem.W.Frag} {H : Hp} : ∀ {v : V} {d : PyData}, Od H v d → Dq K H v d
  | _, _, .non => .non
  | _, _, .bl b => .bl b
  | _, _, .int i => .int i
  | _, _, .str x => .str x
  | _, _, .lst e a => .lst (SqL.of e) (OdAll.dq a)
  | _, _, .tup e a => .tup (SqT.of e) (OdAll.dq a)
  | _, _, .dic e a b => .dic e (OdAll.dq a) (OdAll.dq b)
theorem OdAll.dq {K : PySem.W.Frag} {H : Hp} : ∀ {vs : List V} {ds : List PyData}, OdAll H vs ds → DqAll K H vs ds
  | _, _, .nil => .nil
  | _, _, .cons a b => .cons (Od.dq a) (OdAll.dq b)
end
theorem OdAll.len {H : Hp} : ∀ {vs : List V} {ds : List PyData}, OdAll H vs ds → vs.length = ds.length
  | _, _, .nil => rfl
  | _, _, .cons _ b => congrArg (· + 1) (OdAll.len b)
def tyD : PyData → String
  | .none => "NoneType"
  | .bool _ => "bool"
  | .int _ => "int"
  | .str _ => "str"
  | .list _ => "list"
  | .tuple _ => "tuple"
  | .dict _ => "dict"
theorem Od.ty {K : PySem.W.Frag} {H : Hp} {v : V} {d : PyData} (h : Od H v d) : TyX K H v (.type (tyD d)) := by
  cases h with
  | non => exact .base .non
  | bl b => exact .base (.bl b)
  | int i => exact .base (.int i)
  | str x => exact .base (.str x)
  | lst e _ => exact .base (.lst e)
  | tup e _ => exact .base (.tup e)
  | dic e _ _ => exact .base (.dK e)
def isIntD : PyData → Bool
  | .bool _ => true
  | .int _ => true
  | _ => false
def isBoolD : PyData → Bool
  | .bool _ => true
  | _ => false
def isTupD : PyData → Bool
  | .tuple _ => true
  | _ => false
theorem kInt {K : PySem.W.Frag} (d : PyData) : PySem.W.kitOne K (.type (tyD d)) (.type "int") = some (isIntD d) := by
  cases d <;> (refine kit_ty ?_; simp only [tyD, isIntD]; decide +kernel)
theorem kBool {K : PySem.W.Frag} (d : PyData) : PySem.W.kitOne K (.type (tyD d)) (.type "bool") = some (isBoolD d) := by
  cases d <;> (refine kit_ty ?_; simp only [tyD, isBoolD]; decide +kernel)
theorem kTup {K : PySem.W.Frag} (d : PyData) : PySem.W.kitOne K (.type (tyD d)) (.type "tuple") = some (isTupD d) := by
  cases d <;> (refine kit_ty ?_; simp only [tyD, isTupD]; decide +kernel)
def wholeD : PyData → Bool
  | .int _ => true
  | _ => false
def spWhole : Sp := fun vs H Q _ => ∃ v d, vs = [v] ∧ Od H v d ∧ Q (.bl (wholeD d)) H
def betwD (d : PyData) (lo hi : Int) : Bool := match d with
  | .int n => decide (lo ≤ n) && decide (n ≤ hi)
  | _ => false
def spBetw : Sp := fun vs H Q _ => ∃ v d lo hi, vs = [v, .int lo, .int hi] ∧ Od H v d ∧ Q (.bl (betwD d lo hi)) H
def rowD (d : PyData) (lo hi : Int) : Bool := match d with
  | .tuple ds => decide (lo ≤ (ds.length : Nat)) && decide (((ds.length : Nat) : Int) ≤ hi)
  | _ => false
def spRow : Sp := fun vs H Q _ => ∃ v d lo hi, vs = [v, .int lo, .int hi] ∧ Od H v d ∧ Q (.bl (rowD d lo hi)) H
/-! ### tables -/
def Tb (ps : List Addr) (H : Hp) : Prop := ∀ p ∈ ps, TabG H p
/-- but for the tables all is as it was -/
def UpL (ps : List Addr) (H H' : Hp) : Prop := Tb ps H' ∧ ∀ b, b ∉ ps → ∀ o, H b = some o → H' b = some o
def Stay (H H' : Hp) : Prop := ∀ a o, H a = some o → (∀ ps, o ≠ .tbl ps) → H' a = some o
theorem tabG_same {H H1 : Hp} {p : Addr} (h : TabG H p) (s : Same H H1) : TabG H1 p := let ⟨ps, a, b⟩ := h; ⟨ps, s _ _ a, b⟩
theorem tabG_tab {H H1 : Hp} {p q : Addr} (h : TabG H q) (t : Tabbed p H H1) : TabG H1 q := by
  by_cases e : q = p
  · rw [e]
    exact t.1
  · obtain ⟨ps, a, b⟩ := h
    exact ⟨ps, (t.2 _ e).trans a, b⟩
section
variable {ps : List Addr} {H H1 H2 : Hp}
theorem Tb.same (h : Tb ps H) (s : Same H H1) : Tb ps H1 := fun p hp => tabG_same (h p hp) s
theorem UpL.refl (h : Tb ps H) : UpL ps H H := ⟨h, fun _ _ _ e => e⟩
theorem UpL.trans (a : UpL ps H H1) (b : UpL ps H1 H2) : UpL ps H H2 := ⟨b.1, fun x n o e => b.2 x n o (a.2 x n o e)⟩
theorem UpL.same (h : Tb ps H) (s : Same H H1) : UpL ps H H1 := ⟨h.same s, fun x _ o e => s x o e⟩
theorem UpL.tab {p : Addr} (h : Tb ps H) (t : Tabbed p H H1) (hp : p ∈ ps) : UpL ps H H1 := ⟨fun q hq => tabG_tab (h q hq) t, fun x n o e => (t.2 x (fun z => n (z ▸ hp))).trans e⟩
theorem UpL.stay (h : Tb ps H) (u : UpL ps H H1) : Stay H H1 := fun a o e n => by
  refine u.2 a (fun z => ?_) o e
  obtain ⟨p1, e1, _⟩ := h a z
  rw [e1] at e
  exact n _ (Option.some.inj e).symm
theorem UpL.put {D : Addr} {xs ys : List V} (u : UpL ps H H1) (n : H D = none) (e : H1 D = some (.lst xs)) : UpL ps H (upd H1 D (.lst ys)) := by
  refine ⟨fun p hp => ?_, fun x m o q => ?_⟩
  · obtain ⟨qs, e1, t⟩ := u.1 p hp
    refine ⟨qs, (upd_ne fun z => ?_).trans e1, t⟩
    rw [z, e] at e1
    cases e1
  · rw [upd_ne (ne_of_none q n)]
    exact u.2 x m o q
end
mutual
theorem Od.stay {H H' : Hp} (s : Stay H H') : ∀ {v : V} {d : PyData}, Od H v d → Od H' v d
  | _, _, .non => .non
  | _, _, .bl b => .bl b
  | _, _, .int i => .int i
  | _, _, .str x => .str x
  | _, _, .lst e a => .lst (s _ _ e (fun _ q => nomatch q)) (OdAll.stay s a)
  | _, _, .tup e a => .tup (s _ _ e (fun _ q => nomatch q)) (OdAll.stay s a)
  | _, _, .dic e a b => .dic (s _ _ e (fun _ q => nomatch q)) (OdAll.stay s a) (OdAll.stay s b)
theorem OdAll.stay {H H' : Hp} (s : Stay H H') : ∀ {vs : List V} {ds : List PyData}, OdAll H vs ds → OdAll H' vs ds
  | _, _, .nil => .nil
  | _, _, .cons a b => .cons (Od.stay s a) (OdAll.stay s b)
end
theorem cutV_to (xs : List V) (n : Nat) : cutV xs none (some (n : Int)) = xs.take n := by
  unfold cutV
  rw [HT.sIx_none, HT.sIx_nat, List.drop_zero, Nat.sub_zero]
  by_cases h : n ≤ xs.length
  · rw [Nat.min_eq_left h]
  · rw [Nat.min_eq_right (by omega), List.take_of_length_le (Nat.le_refl _), List.take_of_length_le (by omega)]
theorem cutV_from (xs : List V) (n : Nat) : cutV xs (some (n : Int)) none = xs.drop n := by
  unfold cutV
  rw [HT.sIx_none, HT.sIx_nat]
  by_cases h : n ≤ xs.length
  · rw [Nat.min_eq_left h]
    exact List.take_of_length_le (by rw [List.length_drop]; exact Nat.le_refl _)
  · rw [Nat.min_eq_right (by omega), List.drop_of_length_le (Nat.le_refl _), List.drop_of_length_le (by omega), List.take_nil]
theorem OdAll.take {H : Hp} : ∀ {vs : List V} {ds : List PyData} (n : Nat), OdAll H vs ds → OdAll H (vs.take n) (ds.take n)
  | _, _, 0, _ => by rw [List.take_zero, List.take_zero]; exact .nil
  | _, _, n + 1, .nil => by rw [List.take_nil, List.take_nil]; exact .nil
  | _, _, n + 1, .cons a b => .cons a (OdAll.take n b)
theorem OdAll.drop {H : Hp} : ∀ {vs : List V} {ds : List PyData} (n : Nat), OdAll H vs ds → OdAll H (vs.drop n) (ds.drop n)
  | _, _, 0, h => h
  | _, _, n + 1, .nil => by rw [List.drop_nil, List.drop_nil]; exact .nil
  | _, _, n + 1, .cons a b => OdAll.drop n b
theorem OdAll.app {H : Hp} : ∀ {vs ws : List V} {ds es : List PyData}, OdAll H vs ds → OdAll H ws es → OdAll H (vs ++ ws) (ds ++ es)
  | _, _, _, _, .nil, h => h
  | _, _, _, _, .cons a b, h => .cons a (OdAll.app b h)
def hasOne (i : Int) : List PyData → Bool
  | [] => false
  | .int j :: l => (j == i) || hasOne i l
  | _ :: l => hasOne i l
/-- one thing told of any value -/
def spD (ps : List Addr) (dom : PyData → Prop) (f : PyData → Bool) : Sp := fun vs H Q _ => ∃ v d, vs = [v] ∧ Od H v d ∧ dom d ∧ Tb ps H ∧ ∀ H', UpL ps H H' → Q (.bl (f d)) H'
end Gr
set_option Elab.async false
set_option maxRecDepth 100000
set_option maxHeartbeats 4000000
set_option linter.all false
/-! Ours: enumerate over a tuple; a promise with less asked. -/
namespace Gr
open PySem PySem.Spec PyProof.Rows L2 GxR
set_option maxHeartbeats 1000000 in
theorem enum_new1 {v : Value} {o : Obj} {G : Heap → Prop} (B : Begins v o G) :
    Meets (Builtin.«enumerate.__new__» ⟨[.type "enumerate", v], []⟩) (fun _ R z => G z.heap ∧
      R (.ok (.ret (.ref (z.heap.push o).objs.size))) { z with heap := (z.heap.push o).push { cls := .type "enumerate", data := .fields #[.none, .bool false, .ref z.heap.objs.size, rawInt 0, .none, .none] } }) :=
  .of_wp fun prog w A R z hh => by
    obtain ⟨hp, gg, dd, tk, oo⟩ := z
    obtain ⟨g1, rr⟩ := hh
    have sb := sub_enumerate
    have go : ∀ {A1 : Around} {E1 : Value → Shared → Prop} {Q1 : Value → Shared → Prop}, Q1 (.ref hp.objs.size) ⟨hp.push o, gg, dd, tk, oo⟩ → wpAny (model prog w) A1 (pyIter v) Q1 E1 ⟨hp, gg, dd, tk, oo⟩ := fun q => B.iter prog w _ _ ⟨hp, gg, dd, tk, oo⟩ _ g1 q
    wp_walk using go
    refine wpAny_stack_any fun _ => wpAny_pure ?_
    split
    · rename_i cc _ _ _ _ _
      cases (cc == Value.type "enumerate") <;> (wp_walk using go; exact ⟨_, rfl, rr⟩)
    · wp_walk using go
      exact ⟨_, rfl, rr⟩
theorem enum_call1 {prog : Program} {w : World} {A : Around} {E : Value → Shared → Prop} {z : Shared} {v : Value} {o : Obj} {G : Heap → Prop} {Q : Value → Shared → Prop} (B : Begins v o G) (g1 : G z.heap)
    (hQ : ∀ h', IsEnum h' (z.heap.objs.size + 1) z.heap.objs.size 0 .none → h'.get? z.heap.objs.size = some o → (∀ b u, z.heap.get? b = some u → h'.get? b = some u) → Q (.ref (z.heap.objs.size + 1)) { z with heap := h' }) :
    wpAny (model prog w) A (call (.type "enumerate") [v]) Q E z := by
  have e1 : (z.heap.push o).objs.size = z.heap.objs.size + 1 := Heap.size_push ..
  refine callType_new F.called_enumerate (by decide) (F.typeCall_enumerate_1 _) (F.newCall_enumerate_1 _) (fun ob => F.args_object_init_2 ob _) F.entry_enumerate_new (enum_new1 B) ⟨g1, ?_⟩
  show _ ∧ _
  rw [e1]
  have e2 := Heap.get?_push_size (z.heap.push o) (o := { cls := .type "enumerate", data := .fields #[.none, .bool false, .ref z.heap.objs.size, rawInt 0, .none, .none] }) rfl
  rw [e1] at e2
  exact ⟨⟨_, e2, rfl⟩, hQ _ e2 (Heap.get?_push_of_some _ (Heap.get?_push_size _ B.free)) fun b u q => Heap.get?_push_of_some _ (Heap.get?_push_of_some _ q)⟩
/-- pairs (i, the item at i) of a tuple, each a new one -/
def Itp (K : PySem.W.Frag) (a : Addr) (xs : List V) : It := ⟨fun i H => SqT K H a xs ∧ i < xs.length, fun i H v H' => ∃ T x, v = .ref T ∧ H T = none ∧ H' = upd H T (.tup [.int (i : Nat), x]) ∧ xs[i]? = some x, fun i H => SqT K H a xs ∧ xs.length = i⟩
def YTp (xs : List V) : Nat → Hp → V → Hp → Prop := fun i H v H' => ∃ T x, v = .ref T ∧ H T = none ∧ H' = upd H T (.tup [.int (i : Nat), x]) ∧ xs[i]? = some x
theorem walk_tp {K : PySem.W.Frag} {a : Addr} {xs : List V} : Walk (Itp K a xs) xs.length (fun H => SqT K H a xs) (YTp xs) :=
  ⟨fun _ _ hi q => ⟨q, hi⟩, fun _ q => ⟨q, rfl⟩, fun _ _ _ _ _ _ y => y⟩
theorem turn_tp {P : Program} {w : World} {K : PySem.W.Frag} {elts : List Expr} {kk : Nat} {tpos : Pos} {e it a : Addr} {xs : List V} :
    Turn P w K (.Tuple elts kk tpos) (Itp K a xs) [e, it] e (fun i h => (∃ old, IsEnum h e it ((i : Nat) : Int) old) ∧ h.IsTupleIter it a i ∧ e ≠ it ∧ a ≠ it ∧ a ≠ e) where
  mem := List.mem_cons_self
  obj := by
    rintro i h ⟨⟨old, he⟩, ⟨o, ho, hc, hd⟩, _⟩ b hb
    rcases List.mem_cons.mp hb with z | z
    · rw [z]
      exact ⟨_, he, fun v q => nomatch q⟩
    · rw [List.mem_singleton.mp z]
      exact ⟨o, ho, fun v q => by rw [hd] at q; cases q⟩
  keep := by
    rintro i h h' ⟨⟨old, he⟩, ⟨o, ho, r⟩, ne⟩ k
    exact ⟨⟨old, k e (List.mem_cons_self) _ he⟩, ⟨o, k it (by simp) _ ho, r⟩, ne⟩
  item := by
    intro X hP hw hK hc i pins s σ H E I hf st hg
    subst hP hw hK
    obtain ⟨⟨old, he⟩, hit, ne, na, nae⟩ := st
    obtain ⟨hT0, hi⟩ := hg
    obtain ⟨its, rv, pl, hz0⟩ := I.tuple hT0
    have gx : xs[i]? = some xs[i] := List.getElem?_eq_getElem hi
    obtain ⟨uv, hu0, ru⟩ := paired_at rv gx
    have el : e < s.heap.objs.size := Heap.lt_size he
    have il : it < s.heap.objs.size := let ⟨_, q, _⟩ := hit; Heap.lt_size q
    have n1 : i < its.toArray.size := by rw [List.size_toArray, ← paired_len rv]; exact hi
    refine wpAny_pyNext_enum_itemC (Draws.tuple (A := X.A.in1) (I.ok.hd hc) it a na its.toArray) he ⟨hit, pl⟩ n1 ne (fun z => ?_) fun u h' tk hu ho hit' hT hz hk => ?_
    · rcases List.mem_cons.mp z with z | z
      · exact ne z
      · exact nae (List.mem_singleton.mp z).symm
    have eu : u = uv := by
      have : its[i]? = some u := (List.getElem?_toArray (xs := its) (i := i)).symm.trans hu
      rw [hu0] at this
      exact (Option.some.inj this).symm
    refine ⟨_, rfl, wpAny_letOwnedTupleGo_enum (s := { s with heap := h', toks := tk + 1 }) ho fun h'' he' sb => ?_⟩
    have nT : s.heap.objs.size ≠ e := Nat.ne_of_gt el
    have hT2 : h''.get? s.heap.objs.size = some { cls := .type "tuple", data := .seq #[.int ((i : Nat) : Int) tk, u] } := (sb.2 _ nT).trans hT
    have new : ObjOk X.prog X.w (upd H s.heap.objs.size (.tup [.int (i : Nat), xs[i]])) h'' s.heap.objs.size (.tup [.int (i : Nat), xs[i]]) :=
      ⟨by show 2 ≤ sizeLine; decide, _, .cons ⟨_, rfl⟩ (.cons (eu ▸ ru) .nil), ⟨_, hT2, rfl, _, rfl⟩⟩
    have I1 : Inv X pins σ (upd H s.heap.objs.size (.tup [.int (i : Nat), xs[i]])) { s with heap := h'', toks := tk + 1 } := by
      refine I.turnedNew (ch := [e, it]) (fun b ob hb q => ?_) hf (Nat.le_refl _) new
      have n1 : b ≠ e := fun z => hb (z ▸ List.mem_cons_self)
      have n2 : b ≠ it := fun z => hb (by rw [z]; exact List.mem_cons_of_mem _ List.mem_cons_self)
      exact (sb.2 b n1).trans (hk b ob n1 n2 q)
    refine ⟨.ref s.heap.objs.size, _, I1, rfl, ⟨_, _, rfl, I.hok.fresh (Nat.le_refl _), rfl, gx⟩, ⟨⟨u, ?_⟩, ?_, ne, na, nae⟩, fun b hb => ?_⟩
    · have q : ((i + 1 : Nat) : Int) = (i : Int) + 1 := by omega
      rw [q]
      exact he'
    · obtain ⟨o, q, r⟩ := hit'.1
      exact ⟨o, (sb.2 it (Ne.symm ne)).trans q, r⟩
    · have lb : b < s.heap.objs.size := by
        rcases List.mem_cons.mp hb with z | z
        · rw [z]
          exact el
        · rw [List.mem_singleton.mp z]
          exact il
      rw [upd_ne (Nat.ne_of_lt lb)]
      exact (hf b hb).1
  done := by
    intro X hP hw hK hc i pins s σ H E I hf st hg
    subst hP hw hK
    obtain ⟨⟨old, he⟩, hit, ne, na, nae⟩ := st
    obtain ⟨hT0, hi⟩ := hg
    subst hi
    obtain ⟨its, rv, pl, hz0⟩ := I.tuple hT0
    have D := Draws.tuple (prog := X.prog) (w := X.w) (A := X.A.in1) (I.ok.hd hc) it a na its.toArray
    have n1 : its.toArray.size = xs.length := by rw [List.size_toArray, ← paired_len rv]
    obtain ⟨f0, f1, f2, f3, f4, f5⟩ := hf it (by simp)
    rw [n1] at D
    exact wpAny_pyNext_enum_endD D he ⟨hit, pl⟩ fun h' eb => ⟨rfl, I.turned (t' := s.toks) (fun b o hb q => eb b o hb q) f0 f1 f3 f4 f5⟩
  self := fun A i s Q E ⟨⟨_, he⟩, _⟩ h => wpAny_pyIter_enum he h
/-- enumerate(e), e a tuple -/
def iEnumT (K : PySem.W.Frag) (ta : TA) : TI := fun σ H R => ta σ H fun vs H1 => ∃ a xs, vs = [.ref a] ∧ SqT K H1 a xs ∧ R (Itp K a xs) H1
theorem pi_enumT {X : Cx} {e : Expr} {ta : TA} {p pos tpos : Pos} {elts : List Expr} {kk : Nat} (hg : Gl X "enumerate") (hm : X.mg "enumerate" = none) (ha : PA X [e] ta) (hs : starEach [e] X.env = [(false, eval e X.env)] := by rfl) :
    PI X (.Tuple elts kk tpos) (.Call (.Name "enumerate" p) [e] [] pos) (iEnumT X.K ta) := by
  refine ⟨fun pins s σ H R I h => Call_ (ld_blt I hg hm boot_enumerate (PyProof.Rows.callWith_type1 (thn (ha.run pos pins s σ H _ I h) ?_) hs rfl))⟩
  rintro us s1 ⟨vs, H1, I1, r1, a, xs, rfl, hT0, q⟩
  obtain ⟨u, rfl, ru⟩ := vals1 r1
  cases ru
  obtain ⟨its, rv, pl, hz0⟩ := I1.tuple hT0
  have la : a < s1.heap.objs.size := let ⟨_, q, _⟩ := pl; Heap.lt_size q
  refine enum_call1 (begins_tuple a its.toArray) pl fun h' he ho hk => wpAny_pyIter_enum he ⟨_, [s1.heap.objs.size + 1, s1.heap.objs.size], _, _, H1, rfl, I1.kept (t' := s1.toks) hk, turn_tp (a := a) (xs := xs), ⟨⟨.none, he⟩, ⟨_, ho, rfl, rfl⟩, Nat.succ_ne_self _, Nat.ne_of_lt la, Nat.ne_of_lt (Nat.lt_succ_of_lt la)⟩, fun b hb => ?_, q⟩
  have lb : s1.heap.objs.size ≤ b := by
    rcases List.mem_cons.mp hb with z | z
    · rw [z]
      exact Nat.le_succ _
    · rw [List.mem_singleton.mp z]
      exact Nat.le_refl _
  exact I1.fpOk lb (I1.hok.fresh lb)
end Gr
set_option Elab.async false
set_option maxRecDepth 100000
set_option maxHeartbeats 4000000
set_option linter.all false
/-! Ours: max(numbers, default=k). -/
namespace Gr
open PySem PySem.Spec PyProof.Rows L2 GxR
def maxI (k : Int) : List Int → Int
  | [] => k
  | n :: ns => ns.foldl max n
theorem ints_reads {h : Heap} : ∀ {ns : List Int} {us : List Value}, Vals (ns.map V.int) us → ∃ as, ReadsAll h us (ns.map PyData.int) as
  | [], _, .nil => ⟨_, .nil⟩
  | n :: ns, _, .cons r t => by
    obtain ⟨tk, rfl⟩ := r
    obtain ⟨as, q⟩ := ints_reads (ns := ns) t
    exact ⟨_, .cons (.int n tk) q⟩
theorem ints_depth (ns : List Int) : PyData.depthAll (ns.map PyData.int) ≤ 2 := by
  induction ns with
  | nil => simp [PyData.depthAll]
  | cons n l ih =>
    simp only [List.map_cons, PyData.depthAll, PyData.depth]
    omega
theorem ints_alike (ns : List Int) : PySem.W.AlikeAll (ns.map PyData.int) := by
  refine ⟨fun x hx y hy => ?_, fun x hx => ?_⟩
  · obtain ⟨a, _, rfl⟩ := List.mem_map.mp hx
    obtain ⟨b, _, rfl⟩ := List.mem_map.mp hy
    rfl
  · obtain ⟨a, _, rfl⟩ := List.mem_map.mp hx
    exact fun z => nomatch z
def rMaxDef (K : PySem.W.Frag) : List V → List V → Hp → VK → Prop := fun vs zs H Q => ∃ (a : Addr) (ns : List Int) (k : Int), vs = [.ref a] ∧ zs = [.int k] ∧ SqL K H a (ns.map V.int) ∧ Q (.int (maxI k ns)) H
theorem call_maxDef {X : Cx} (hd : X.A.handled = none) (hu : X.A.units + 64 < cLine) : CallRK X (.builtin "max") [("default" : Str)] (rMaxDef X.K) := by
  intro pins s σ H xs zs us ws Q I rx rz h
  obtain ⟨a, ns, k, rfl, rfl, hS, q⟩ := h
  obtain ⟨u, rfl, ru⟩ := vals1 rx
  obtain ⟨uw, rfl, rw2⟩ := vals1 rz
  cases ru
  obtain ⟨t, rfl⟩ := rw2
  obtain ⟨its, rv, pl, hz⟩ := I.list hS
  obtain ⟨as, ra⟩ := ints_reads (h := s.heap) rv
  refine PySem.W.max_list_default (xs := ns.map PyData.int) (d := .int k t) hd pl.isList (by exact ra) (ints_alike ns) (by have := ints_depth ns; omega) (fun e h' tk hk => ?_) (fun y ys i v h' tk bs e hv hr hk => ?_)
  · cases ns with
    | nil => exact ⟨.int k, H, I.kept (t' := tk) hk, ⟨t, rfl⟩, q⟩
    | cons n l => cases e
  · cases ns with
    | nil => cases e
    | cons n l =>
      have e1 : y = .int n := (List.cons.inj e).1.symm
      have e2 : ys = l.map PyData.int := (List.cons.inj e).2.symm
      subst e1
      subst e2
      rw [PySem.W.maxD_ints] at hr
      cases hr
      exact ⟨.int _, H, I.kept (t' := tk) hk, ⟨_, rfl⟩, q⟩
end Gr
set_option Elab.async false
set_option maxRecDepth 100000
set_option maxHeartbeats 4000000
set_option linter.all false
/-! Ours: sum of a tuple of numbers; a walk within a comprehension. -/
namespace Gr
open PySem PySem.Spec PyProof.Rows L2 GxR
def rSumT (K : PySem.W.Frag) : List V → Hp → VK → Prop := fun vs H Q => ∃ (a : Addr) (ns : List Int), vs = [V.ref a] ∧ SqT K H a (ns.map V.int) ∧ Q (.int ns.sum) H
theorem cr_sumT {X : Cx} (hd : X.A.handled = none) : CallR X (.builtin "sum") (rSumT X.K) := by
  intro pins s σ H vs us Q I r h
  obtain ⟨a, ns, rfl, hT, q⟩ := h
  obtain ⟨its, rv, pl, _⟩ := I.tuple hT
  rw [Vals.ref1 r]
  have hI := rv.ints
  obtain ⟨zs, ez⟩ := hI.allInts.items
  have en : numsOf its.toArray.toList = ns := by rw [show its.toArray.toList = its from rfl]; exact hI.numsOf
  rw [ez] at pl en
  rw [nums_intItems] at en
  refine PySem.W.ktm_sumG hd pl fun h' tk t' hk => ?_
  rw [preSum_eq, List.take_of_length_le (by simp), en]
  exact ⟨.int _, H, I.kept hk, ⟨_, rfl⟩, q⟩
end Gr
set_option Elab.async false
set_option linter.all false
set_option maxRecDepth 100000
set_option maxHeartbeats 4000000
/-! Ours: a tuple times any small number, 0 and 1 among them. -/
namespace Gr
open PySem PySem.Spec PyProof.Rows L2
theorem tuple_mul1 (l : Addr) (items : Array Value) (n : Nat) (dd : Option Addr) (sl : Array (Option Value)) (u : Tok) :
    Meets (Builtin.«tuple.__mul__» ⟨[.ref l, .int 1 u], []⟩) (fun _ R s => s.heap.get? l = some { cls := .type "tuple", dict := dd, data := .seq items n, slots := sl } ∧
      R (.ok (.ret (Value.ref l))) s) :=
  .of_wp fun prog w A R s h => by
    obtain ⟨hp, g, d, tk, os⟩ := s
    obtain ⟨hl, h⟩ := h
    have f1 := AutoSeq1.idx_int
    wp_walk using wpAny_loadPart' hl
    exact ⟨_, rfl, h⟩
theorem tuple_mul0 (l : Addr) (items : Array Value) (n : Nat) (dd : Option Addr) (sl : Array (Option Value)) (u : Tok) (hi : items.isEmpty = false) :
    Meets (Builtin.«tuple.__mul__» ⟨[.ref l, .int 0 u], []⟩) (fun _ R s => s.heap.get? l = some { cls := .type "tuple", dict := dd, data := .seq items n, slots := sl } ∧
      R (.ok (.ret (Value.ref s.heap.objs.size))) { s with heap := s.heap.push { cls := Value.type "tuple", data := Data.seq #[] }, toks := s.toks }) :=
  .of_wp fun prog w A R s h => by
    obtain ⟨hp, g, d, tk, os⟩ := s
    obtain ⟨hl, h⟩ := h
    have f1 := AutoSeq1.idx_int
    wp_walk using wpAny_loadPart' hl
    exact ⟨_, rfl, h⟩
def rRepA (K : PySem.W.Frag) : R2 := fun x y H Q => ∃ l k xs, x = .ref l ∧ y = .int k ∧ SqT K H l xs ∧ xs ≠ [] ∧ 0 ≤ k ∧ k ≤ 1000 ∧ xs.length ≤ 1000 ∧ (k = 1 → Q (.ref l) H) ∧ (k ≠ 1 → ∀ p, H p = none → Q (.ref p) (upd H p (.tup (List.replicate k.toNat xs).flatten)))
section
variable {X : Cx}
theorem op_repA : OpR X (binaryOp .Mult) (rRepA X.K) := by
  intro pins s σ H x y v u Q I rx ry h
  obtain ⟨l, k, xs, rfl, rfl, hT, hne, h1, h2, hz, q1, q2⟩ := h
  by_cases h2k : 2 ≤ k
  · exact op_repT pins s σ H _ _ v u Q I rx ry ⟨l, k, xs, rfl, rfl, hT, hne, h2k, h2, hz, q2 (by omega)⟩
  cases rx
  obtain ⟨t, rfl⟩ := ry
  obtain ⟨its, r, ⟨⟨cls, dd, data, sl⟩, ho, hc, n, hd⟩, hs⟩ := I.tuple hT
  simp only at hc hd
  subst hc hd
  have hle : its.length = xs.length := r.length.symm
  have hn : its ≠ [] := fun e => hne (by
    rw [e] at hle
    exact List.eq_nil_of_length_eq_zero hle.symm)
  have hi : its.toArray.isEmpty = false := by
    cases its with
    | nil => exact absurd rfl hn
    | cons a b => rfl
  by_cases k1 : k = 1
  · subst k1
    refine wpAny_binaryOp_repeat_ref (T := "tuple") (U := "int") (by decide) ⟨_, ho, rfl⟩ (fun s' => typeIs_int s' 1 t) noFill_tuple_mul F.fills_int_mul F.slot_int_rmul repeat_tuple F.slot_int_index.lookup
      (call_meets F.slot_int_rmul (typeIs_int s 1 t) F.entry_int_rmul (F.args_int_rmul_2 _ _) (int_rmul_tuple 1 t l its.toArray n dd sl)
        ⟨ho, rfl, ⟨_, ho, rfl⟩, call_meets F.slot_tuple_mul ⟨_, ho, rfl⟩ F.entry_tuple_mul (F.args_tuple_mul_2 _ _) (tuple_mul1 l its.toArray n dd sl t) ⟨ho, ?_⟩⟩)
    exact ⟨.ref l, H, I, rfl, q1 rfl⟩
  · have k0 : k = 0 := by omega
    subst k0
    refine wpAny_binaryOp_repeat_ref (T := "tuple") (U := "int") (by decide) ⟨_, ho, rfl⟩ (fun s' => typeIs_int s' 0 t) noFill_tuple_mul F.fills_int_mul F.slot_int_rmul repeat_tuple F.slot_int_index.lookup
      (call_meets F.slot_int_rmul (typeIs_int s 0 t) F.entry_int_rmul (F.args_int_rmul_2 _ _) (int_rmul_tuple 0 t l its.toArray n dd sl)
        ⟨ho, rfl, ⟨_, ho, rfl⟩, call_meets F.slot_tuple_mul ⟨_, ho, rfl⟩ F.entry_tuple_mul (F.args_tuple_mul_2 _ _) (tuple_mul0 l its.toArray n dd sl t hi) ⟨ho, ?_⟩⟩)
    refine ⟨.ref s.heap.objs.size, _, I.laid (t' := s.toks) (o := .tup []) (fun b ob q => Heap.get?_push_of_some _ q) (Nat.le_refl _) ?_, rfl, q2 (by decide) _ (I.hok.fresh (Nat.le_refl _))⟩
    exact ⟨Nat.zero_le _, _, .nil, IsTup.new _ _⟩
end
end Gr
set_option Elab.async false
set_option linter.all false
set_option maxRecDepth 100000
set_option maxHeartbeats 4000000
/-! Ours: a tuple == (). -/
namespace Gr
open PySem PySem.Spec PyProof.Rows L2
end Gr
set_option Elab.async false
set_option maxRecDepth 100000
set_option maxHeartbeats 2000000
set_option linter.all false
/-! Ours: all(.. for a, b in e), e a tuple of pairs of data, over a quiet element that reads captured names of the def. -/
namespace Gr
open PySem PySem.Spec PyProof.Rows L2 GxR
theorem letGo_tupleiter {prog : Program} {w : World} {A : Around} {E : Value → Shared → Prop} {s : Shared} {elts : List Expr} {x1} {pos : Pos} {I l T : Addr} {i : Nat} {Q : Unit → Shared → Prop} (hit : s.heap.IsTupleIter I l i) (hQ : Q () s) :
    wpAny (model prog w) A (letOwnedTupleGo (.Tuple elts x1 pos) (.ref I) (.ref T)) Q E s := by
  obtain ⟨o, ho, hc, hd⟩ := hit
  unfold letOwnedTupleGo
  refine wpAny_bind (wpAny_load ho ?_)
  rw [hc, hd]
  show wpAny _ A (if (["enumerate", "zip", "dict_itemiterator", "dict_reverseitemiterator", "odict_iterator", "itertools.zip_longest", "itertools.pairwise"].contains "tuple_iterator" &&
      (#[.ref l, .int i 0] : Array Value)[0]? == some (rawInt T)) = true then _ else _) Q E s
  rw [if_neg (by
    intro h
    rw [show (["enumerate", "zip", "dict_itemiterator", "dict_reverseitemiterator", "odict_iterator", "itertools.zip_longest", "itertools.pairwise"].contains "tuple_iterator") = false from by decide, Bool.false_and] at h
    cases h)]
  exact wpAny_pure hQ
theorem walks_tt {prog : Program} {w : World} {A : Around} (hh : A.handled = none) (I ax : Addr) (hne : ax ≠ I) (items : Array Value) (Ts : Nat → Addr) (vals : Nat → Array Value)
    (hit : ∀ j, j < items.size → items[j]? = some (.ref (Ts j))) (hTI : ∀ j, j < items.size → Ts j ≠ I) :
    WalksU prog w A I (I :: ax :: (List.range items.size).map Ts) [I] items.size (fun j v => j < items.size ∧ v = vals j)
      (fun j h => h.IsTupleIter I ax j ∧ h.IsTuple ax items ∧ ∀ k, k < items.size → h.IsTuple (Ts k) (vals k))
      (fun j T h => (j < items.size ∧ T = Ts j) ∧ h.IsTupleIter I ax (j + 1) ∧ h.IsTuple ax items ∧ ∀ k, k < items.size → h.IsTuple (Ts k) (vals k)) where
  sub := fun b hb => by simp at hb; simp [hb]
  frame := fun _ _ _ st hk => ⟨st.1.at fun o e => hk I (by simp) o e, st.2.1.at fun o e => hk ax (by simp) o e,
    fun k hk' => (st.2.2 k hk').at fun o e => hk (Ts k) (List.mem_cons_of_mem _ (List.mem_cons_of_mem _ (List.mem_map.mpr ⟨k, List.mem_range.mpr hk', rfl⟩))) o e⟩
  item := fun i s Q E hi st hQ => by
    refine wpAny_pyNext_tuple_item st.1 st.2.1 (x := .ref (Ts i)) (hit i hi) fun h' hit' hs' => ?_
    have tup : ∀ k, k < items.size → h'.IsTuple (Ts k) (vals k) := fun k hk' => (st.2.2 k hk').extBut hs'.extBut (hTI k hk')
    exact hQ (Ts i) (vals i) h' s.toks ⟨hi, rfl⟩ (tup i hi) ⟨⟨hi, rfl⟩, hit', st.2.1.extBut hs'.extBut hne, tup⟩ fun b o hb e => hs'.extBut b o (fun h => hb (by simp [h])) e
  go := fun _ _ _ _ _ s Q _ hm hQ => letGo_tupleiter hm.2.1 (hQ s.heap hm.2 fun _ _ _ e => e)
  apart := fun j T _ hm hmem => by
    rcases List.mem_cons.mp hmem with e | e
    · exact hTI j hm.1.1 (hm.1.2 ▸ e)
    · cases e
  done := fun s Q E st hQ => wpAny_pyNext_tuple_end hh st.1 st.2.1 (by simp) fun h' he' => hQ h' s.toks fun b o hb e => he' b o (fun h => hb (by simp [h])) e
  self := fun _ _ _ _ st hQ => wpAny_pyIter_tupleiter st.1 hQ
/-- captured names and what they hold -/
inductive FrD (h : Heap) (cells : List (Str × Addr)) : List Str → List PyData → Prop
  | nil : FrD h cells [] []
  | cons {x : Str} {xs : List Str} {d : PyData} {ds : List PyData} {c : Addr} {u : Value} : cells.lookup x = some c → h.IsCell c (some u) → Vd h u d → szD d → FrD h cells xs ds → FrD h cells (x :: xs) (d :: ds)
inductive CapD (K : PySem.W.Frag) (H : Hp) (σ : L2.St) : List Nat → List PyData → Prop
  | nil : CapD K H σ [] []
  | cons {i : Nat} {is : List Nat} {v : V} {d : PyData} {ds : List PyData} : σ[i]? = some (some v) → Dq K H v d → CapD K H σ is ds → CapD K H σ (i :: is) (d :: ds)
def tw (q : PyData × PyData) : PyData := .tuple [q.1, q.2]
def EltTF (X : Cx) (k : Nat) (scope : Scope) (xa xb : Str) (xs : List Str) (elt : Expr) (dom : List PyData → PyData × PyData → Prop) (pb : List PyData → PyData × PyData → Bool) : Prop :=
  ∀ (en : Env) (m : Str → Option Value) (h0 : Heap) (va vb : Value) (q : PyData × PyData) (fd : List PyData), en.scope = scope → Qc X.K X.mg X.base en → m xa = some va → m xb = some vb → Vd h0 va q.1 → Vd h0 vb q.2 → FrD h0 en.cells xs fd → dom fd q → QE X.prog X.w X.base h0 k en m elt (.bool (pb fd q))
inductive CapN (X : Cx) (scope : Scope) : List Str → List Nat → Prop
  | nil : CapN X scope [] []
  | cons {x : Str} {xs : List Str} {i : Nat} {is : List Nat} : X.N[i]? = some x → X.env.kindOf x = some .cell → (x, NameKind.free) ∈ scope.names → CapN X scope xs is → CapN X scope (x :: xs) (i :: is)
structure GenTF (X : Cx) (scope : Scope) (xa xb : Str) (xs : List Str) (is : List Nat) : Prop where
  kind : scope.kind = .function
  co : scope.isCoroutine = false
  cell : ∀ y ∈ scope.names, y.2 ≠ .cell
  dot : scope.names.lookup (".0" : Str) = some NameKind.local
  la : scope.names.lookup xa = some .local
  lb : scope.names.lookup xb = some .local
  ab : xa ≠ xb
  free : ∀ y ∈ scope.names, y.2 = .free → ∃ c, X.env.cells.lookup y.1 = some c
  cap : CapN X scope xs is
section
variable {X : Cx} {pins : List (Addr × Obj)} {σ : L2.St} {H : Hp} {s : Shared}
theorem clo_lookup {cells : List (Str × Addr)} {names : List (Str × NameKind)} {x : Str} (hx : (x, NameKind.free) ∈ names) : (cloFrom cells names []).lookup x = some ((cells.lookup x).getD 0) := by
  obtain ⟨c', e'⟩ := mem_lookup (cloFrom_has (cells := cells) (acc := []) hx)
  rw [e']
  rcases cloFrom_mem (PySem.mem_of_lookup e') with h | h
  · cases h
  · rw [h.2]
theorem cap_fr {xs : List Str} {is : List Nat} {fd : List PyData} {scope : Scope} (I : Inv X pins σ H s) (h : CapN X scope xs is) (c : CapD X.K H σ is fd) :
    FrD s.heap (cloFrom X.env.cells scope.names []) xs fd := by
  induction h generalizing fd with
  | nil => cases c; exact .nil
  | cons n1 n2 n3 _ ih =>
    cases c with
    | cons e1 e2 e3 =>
      obtain ⟨m, _, hl⟩ := I.loc
      obtain ⟨u, ru, lk⟩ := hl _ _ _ n1 e1 (.inr (.inl n2))
      rcases lk with ⟨z, _⟩ | ⟨_, c, hc, hcell⟩
      · rw [n2] at z; cases z
      · obtain ⟨as, r, _⟩ := e2.reads I u ru
        refine .cons ?_ hcell ⟨as, r⟩ (Dq.sz I e2) (ih e3)
        rw [clo_lookup n3, hc]
        rfl
theorem FrD.but {h h' : Heap} {P : Addr} {ps : Array Value} (k : ∀ b o, b ≠ P → h.get? b = some o → h'.get? b = some o) (p0 : h.get? P = some { cls := .none, data := .fields ps }) {cells : List (Str × Addr)} {xs : List Str} {fd : List PyData} (f : FrD h cells xs fd) : FrD h' cells xs fd := by
  induction f with
  | nil => exact .nil
  | cons a b r z _ ih =>
    obtain ⟨o, e1, e2⟩ := b
    obtain ⟨as, r⟩ := r
    refine .cons a ⟨o, k _ _ (fun q => ?_) e1, e2⟩ ⟨as, reads_but k p0 rfl r⟩ z ih
    rw [q, p0] at e1
    cases e1
    cases e2
def pairB (f : PyData × PyData → Bool) : PyData → Bool
  | .tuple [a, b] => f (a, b)
  | _ => false
theorem pair_all {f : PyData × PyData → Bool} (l : List (PyData × PyData)) : (l.map tw).all (pairB f) = l.all f := by
  rw [List.all_map]
  rfl
theorem vd_two {h : Heap} {v : Value} {q : PyData × PyData} (r : Vd h v (tw q)) : ∃ T va vb, v = .ref T ∧ h.IsTuple T #[va, vb] ∧ Vd h va q.1 ∧ Vd h vb q.2 := by
  obtain ⟨t, its, rfl, ht, ha⟩ := vd_tup r
  obtain ⟨l⟩ := its
  cases ha with
  | cons a b => cases b with
    | cons b c => cases c; exact ⟨t, _, _, rfl, ht, a, b⟩
theorem genTF {c P : Addr} {elt iter : Expr} {xa xb : Str} {qa qb qt gpos : Pos} {kt : Nat} {scope : Scope} {xs : List Str} {is : List Nat} {dom : List PyData → PyData × PyData → Prop} {pb : List PyData → PyData × PyData → Bool} {te : TE} {k : Nat} {W : Value → Shared → Prop} {R : List (PyData × PyData) → List PyData → Hp → Prop}
    (hr : Room (k + 1) X.A) (TB : TabB X.base X.mg c P) (hcode : X.env.code = .ref c) (S : GenTF X scope xa xb xs is) (hi : PE X iter te) (hel : EltTF X k scope xa xb xs elt dom pb)
    (hs : ∀ v, genFold iter X.env v = pure v) (I : Inv X pins σ H s) (h : te σ H fun v H1 => ∃ pr fd, Dq X.K H1 v (.tuple (pr.map tw)) ∧ CapD X.K H1 σ is fd ∧ (∀ q ∈ pr, dom fd q) ∧ TabG H1 P ∧ R pr fd H1)
    (hQ : ∀ pr fd H1 g z, R pr fd H1 → ReadyD X pins σ H1 P (pr.map tw) (pairB (pb fd)) g z → W (.ref g) z) :
    wpAny (model X.prog X.w) X.A (eval (.GeneratorExp elt [⟨.Tuple [.Name xa qa, .Name xb qb] kt qt, iter, [], 0⟩] scope gpos) X.env) W X.xe s := by
  refine wpAny_GeneratorExp_walksQTD hr.hd S.co (closure_ok S.free) S.cell S.dot S.la S.lb S.ab S.kind hr.depth (thn (hi.run pins s σ H _ I h) ?_) hs
  rintro xv s1 ⟨v, H1, I1, r1, pr, fd, hd, hcap, hdom, ⟨ps, hP, ht⟩, q1⟩
  obtain ⟨asv, rv, _⟩ := hd.reads I1 xv r1
  obtain ⟨tt, its, rfl, hit, hva⟩ := vd_tup ⟨asv, rv⟩
  have hsz : its.size = pr.length := by rw [← List.length_map (f := tw), ← hva.len, Array.length_toList]
  have hfr := cap_fr I1 S.cap hcap
  have each : ∀ j, ∃ q : Addr × Value × Value, ∀ hj : j < pr.length, its[j]? = some (.ref q.1) ∧ s1.heap.IsTuple q.1 #[q.2.1, q.2.2] ∧ Vd s1.heap q.2.1 pr[j].1 ∧ Vd s1.heap q.2.2 pr[j].2 := by
    intro j
    by_cases hj : j < pr.length
    · obtain ⟨v', hv', rv'⟩ := hva.get (i := j) (d := tw pr[j]) (by rw [List.getElem?_map, List.getElem?_eq_getElem hj]; rfl)
      obtain ⟨T, va, vb, rfl, a1, a2, a3⟩ := vd_two rv'
      exact ⟨(T, va, vb), fun _ => ⟨by rw [← Array.getElem?_toList]; exact hv', a1, a2, a3⟩⟩
    · exact ⟨default, fun q => absurd q hj⟩
  obtain ⟨qf, hqf⟩ := Classical.axiomOfChoice each
  have tlt : tt < s1.heap.objs.size := let ⟨_, e, _⟩ := hit; Heap.lt_size e
  have qlt : ∀ j, j < its.size → (qf j).1 < s1.heap.objs.size := fun j hj => let ⟨_, ⟨_, e, _⟩, _⟩ := hqf j (by omega); Heap.lt_size e
  refine wpAny_pyIter_tuple hit ⟨I1.nolimit.push _, code_then I1 TB hcode hP ht fun cv h3 tk more up lt hp ht' lim => ?_⟩
  have p0 : s1.heap.get? P = some { cls := .none, data := .fields ps } := I1.hok P _ hP
  have pl : P < s1.heap.objs.size := Heap.lt_size p0
  have at1 : ∀ b, b ∈ [s1.heap.objs.size] → b = s1.heap.objs.size := fun b hb => List.mem_singleton.mp hb
  have cl : cStatics < s1.heap.objs.size := let ⟨_, n, _⟩ := I1.nolimit; n.lt
  have notP : ∀ {T its'}, s1.heap.IsTuple T its' → T ≠ P := fun {T its'} hT e => by
    obtain ⟨o, e1, e2, _⟩ := hT
    rw [e, p0] at e1
    cases e1
    cases e2
  have up0 : ∀ b u, b ≠ P → s1.heap.get? b = some u → h3.get? b = some u := fun b u n e => by
    exact up b u n (Heap.get?_push_of_some _ e)
  have tn : tt ≠ s1.heap.objs.size := Nat.ne_of_lt tlt
  refine ⟨s1.heap.objs.size, s1.heap.objs.size :: tt :: (List.range its.size).map (fun j => (qf j).1), [s1.heap.objs.size], its.size, _, _, _, fun _ => true, fun i y => ∃ d, (pr.map tw)[i]? = some d ∧ y = .bool (pairB (pb fd) d), rfl,
    fun A' hh => walks_tt hh _ _ tn its (fun j => (qf j).1) (fun j => #[(qf j).2.1, (qf j).2.2]) (fun j hj => (hqf j (by omega)).1) (fun j hj => Nat.ne_of_lt (qlt j hj)), fun i vals hv => ⟨_, _, hv.2⟩, ⟨⟨_, up _ _ (fun e => ?_) (Heap.get?_push_size _ rfl), rfl, rfl⟩, ?_, fun j hj => ?_⟩, fun b hb => ?_, lim, fun z => ?_, fun href hh => ?_, ?_⟩
  · rw [← e] at pl
    exact Nat.lt_irrefl _ pl
  · have nP := notP hit
    obtain ⟨o, e1, e2⟩ := hit
    exact ⟨o, up0 _ _ nP e1, e2⟩
  · have hT := (hqf j (by omega)).2.1
    have nP := notP hT
    obtain ⟨o, e1, e2⟩ := hT
    exact ⟨o, up0 _ _ nP e1, e2⟩
  · rcases List.mem_cons.mp hb with e | e
    · rw [e]; exact lt
    · rcases List.mem_cons.mp e with e | e
      · rw [e]
        exact Nat.lt_trans tlt lt
      · obtain ⟨j, hj, rfl⟩ := List.mem_map.mp e
        exact Nat.lt_trans (qlt j (List.mem_range.mp hj)) lt
  · rw [at1 _ z] at cl
    exact Nat.lt_irrefl _ cl
  · constructor
    · intro B E' i va vb z m _ _ _ _ _ _ _ _
      rw [List.forIn_nil]
      exact wpAny_pure ⟨rfl, keeps_refl _⟩
    · intro B E' i va vb z m hB hD hU hv _ hn hma hmb hk
      obtain ⟨hi1, hv⟩ := hv
      have hi2 : i < pr.length := by omega
      obtain ⟨_, _, rz1, rz2⟩ := hqf i hi2
      have ea : va = (qf i).2.1 := by
        have := congrArg (fun a : Array Value => a[0]?) hv
        exact Option.some.inj this
      have eb : vb = (qf i).2.2 := by
        have := congrArg (fun a : Array Value => a[1]?) hv
        exact Option.some.inj this
      have keepA : ∀ b o, b ≠ P → s1.heap.get? b = some o → z.heap.get? b = some o := fun b o nb e => by
        have lb : b < s1.heap.objs.size := Heap.lt_size e
        refine hk b (List.mem_range.mpr (Nat.lt_trans lb lt)) (fun q => ?_) _ (hh _ _ (up0 b o nb e))
        rw [at1 b q] at lb
        exact Nat.lt_irrefl _ lb
      have room : Room k B := ⟨hB, by have := hr.dp; omega, by have := hr.un; omega⟩
      have rq1 : Vd z.heap va pr[i].1 := by
        rw [ea]
        obtain ⟨as2, r2⟩ := rz1
        exact ⟨as2, reads_but keepA p0 rfl r2⟩
      have rq2 : Vd z.heap vb pr[i].2 := by
        rw [eb]
        obtain ⟨as2, r2⟩ := rz2
        exact ⟨as2, reads_but keepA p0 rfl r2⟩
      refine thn (hel _ m z.heap va vb pr[i] fd rfl ⟨I1.mod, S.kind, ?_, rfl⟩ hma hmb rq1 rq2 (hfr.but keepA p0) (hdom _ (List.getElem_mem hi2)) B E' z ⟨room, fun b o e => ?_, fun _ _ e => e, hn⟩) fun y z' r => ⟨⟨tw pr[i], by rw [List.getElem?_map, List.getElem?_eq_getElem hi2]; rfl, vd_bool r.1⟩, r.2⟩
      · exact I1.ok.glob
      · obtain ⟨e1, e2⟩ := I1.bs b o e
        exact keepA b o (fun q => by rw [q, hP] at e2; cases e2) e1
  · intro g h5 tk5 gs gb ag sz5 k5 W5 hat
    simp only [GxR.passing_true, List.length_range] at W5
    have hsz' : its.size = (pr.map tw).length := by rw [hsz, List.length_map]
    rw [hsz'] at W5 hat
    refine hQ pr fd H1 g _ q1 ⟨_, _, _, _, _, W5.in4_1, hat, ?_, fun s' mv => ?_⟩
    · rintro j y z Q' E' ⟨i, hij, d, hd2, rfl⟩ q
      obtain ⟨hj, ej⟩ := List.getElem?_eq_some_iff.mp hij
      rw [List.getElem_range] at ej
      cases ej
      have q' : Q' (trD (pairB (pb fd)) (pr.map tw) j) z := q
      unfold trD at q'
      rw [hd2] at q'
      exact wpAny_truthy_bool q'
    · have nw : ∀ b u, s1.heap.get? b = some u → b ∉ h3.objs.size :: [s1.heap.objs.size] := fun b u e hb => by
        have l := Heap.lt_size e
        have l2 : s1.heap.objs.size < h3.objs.size := lt
        rcases List.mem_cons.mp hb with z | z
        · rw [z] at l
          exact Nat.lt_asymm l l2
        · rw [at1 b z] at l
          exact Nat.lt_irrefl _ l
      have J := inv_tab (more := more) (h' := s'.heap) (g' := s'.gens) (d' := s'.drawn) (t' := s'.toks) I1 hP (fun b u n e => mv.heap b u (nw b u e) (k5 b u (up0 b u n e))) (mv.heap P _ (nw P _ p0) (k5 P _ hp)) (AllBare.movedS (I1.bare.push gb) mv)
      have es : ({ s1 with heap := s'.heap, gens := s'.gens, drawn := s'.drawn, toks := s'.toks } : Shared) = s' := by
        obtain ⟨_, _, _, _, _⟩ := s'
        have := mv.os
        dsimp only at this
        rw [this]
      rw [es] at J
      exact ⟨upd H1 P (.tbl (ps ++ more)), ⟨⟨_, upd_same, ht'⟩, fun b hb => upd_ne hb⟩, J⟩
def tAllTF (K : PySem.W.Frag) (P : Addr) (is : List Nat) (dom : List PyData → PyData × PyData → Prop) (pb : List PyData → PyData × PyData → Bool) (te : TE) : TE := fun σ H Q => te σ H fun v H1 => ∃ (pr : List (PyData × PyData)) (fd : List PyData), Dq K H1 v (.tuple (pr.map tw)) ∧ CapD K H1 σ is fd ∧ (∀ q ∈ pr, dom fd q) ∧ TabG H1 P ∧ ∀ H2, Tabbed P H1 H2 → Q (.bl (pr.all (pb fd))) H2
/-- all(elt for a, b in e), e a tuple of pairs -/
theorem pe_allTF {c P : Addr} {elt iter : Expr} {xa xb : Str} {qa qb qt p pos gpos : Pos} {kt : Nat} {scope : Scope} {xs : List Str} {is : List Nat} {dom : List PyData → PyData × PyData → Prop} {pb : List PyData → PyData × PyData → Bool} {te : TE} {k : Nat}
    (hr : Room (k + 1) X.A) (hg : Gl X "all") (hm : X.mg "all" = none) (TB : TabB X.base X.mg c P) (hcode : X.env.code = .ref c) (S : GenTF X scope xa xb xs is) (hi : PE X iter te) (hel : EltTF X k scope xa xb xs elt dom pb)
    (hs : ∀ v, genFold iter X.env v = pure v)
    (he : starEach [.GeneratorExp elt [⟨.Tuple [.Name xa qa, .Name xb qb] kt qt, iter, [], 0⟩] scope gpos] X.env = (false, eval (.GeneratorExp elt [⟨.Tuple [.Name xa qa, .Name xb qb] kt qt, iter, [], 0⟩] scope gpos) X.env) :: starEach [] X.env := by rfl) :
    PE X (.Call (.Name "all" p) [.GeneratorExp elt [⟨.Tuple [.Name xa qa, .Name xb qb] kt qt, iter, [], 0⟩] scope gpos] [] pos) (tAllTF X.K P is dom pb te) := by
  refine ⟨fun pins s σ H Q I h => wpAny_Call_Name_kw (ld_blt I hg hm boot_all (PyProof.Rows.callWith_builtin1 ?_ he (by rfl)))⟩
  rw [he]
  show wpAny _ _ (spliced ((false, eval (.GeneratorExp elt [⟨.Tuple [.Name xa qa, .Name xb qb] kt qt, iter, [], 0⟩] scope gpos) X.env) :: backTo pos (starEach [] X.env))) _ _ s
  refine Calls.spliced_cons (genTF (R := fun pr fd H1 => ∀ H2, Tabbed P H1 H2 → Q (.bl (pr.all (pb fd))) H2) hr TB hcode S hi hel hs I h ?_)
  rintro pr fd H1 g z hR ⟨fp, wr, G, F, St, W, hst, htr, hI⟩
  refine Calls.spliced_nil (call_all_walkS (W.self 0 _ _ _ hst ⟨g, fp, wr, G, _, F, St, _, rfl, W, hst, htr, fun s' mv => ?_⟩))
  obtain ⟨H2, hT, J⟩ := hI s' mv
  rw [trD_all (pairB (pb fd)) (pr.map tw), pair_all]
  exact ⟨.bl _, H2, J, rfl, hR H2 hT⟩
end
end Gr
set_option Elab.async false
set_option maxRecDepth 100000
set_option maxHeartbeats 2000000
set_option linter.all false
/-! Ours: quiet code, more: captured names, a - b, -a, e[i] of any sign. -/
namespace Gr
open PySem PySem.Spec PyProof.Rows L2 GxR
section
variable {P : Program} {w : World} {K : PySem.W.Frag} {mg : Str → Option Value} {base h0 : Heap} {k : Nat} {env : Env} {m : Str → Option Value}
theorem qe_free {x : Str} {p : Pos} {c : Addr} {u : Value} {d : PyData} (C : Qc K mg base env) (hl : env.scope.names.lookup x = some .free) (hc : env.cells.lookup x = some c) (hv : h0.IsCell c (some u)) (hr : Vd h0 u d) (hn : (x == ("__classdict__" : Str)) = false := by decide) (hd : (x == ("__debug__" : Str)) = false := by decide) :
    QE P w base h0 k env m (.Name x p) d := fun B E z q => by
  obtain ⟨o, e1, e2⟩ := hv
  exact wpAny_Name (wpAny_loadName_free C.kind hl hc ⟨o, q.up _ _ e1, e2⟩ ⟨hr.up q.up, keeps_refl _⟩ hn) hd
theorem qe_sub {a b : Expr} {i j : Int} {pos : Pos} (ha : QE P w base h0 k env m a (.int i)) (hb : QE P w base h0 k env m b (.int j)) : QE P w base h0 k env m (.BinOp a .Sub b pos) (.int (i - j)) := by
  intro B E z q
  refine wpAny_BinOp (thn (ha B E z q) fun u z1 ⟨r1, k1⟩ => thn (hb B E z1 (q.next k1)) fun v z2 ⟨r2, k2⟩ => ?_)
  obtain ⟨t, rfl⟩ := vd_int r1
  obtain ⟨t', rfl⟩ := vd_int r2
  exact sub_int ⟨⟨_, .int _ _⟩, kt k1 (kt k2 (keeps_tok _ _))⟩
theorem qe_neg {a : Expr} {i : Int} {pos : Pos} (ha : QE P w base h0 k env m a (.int i)) : QE P w base h0 k env m (.UnaryOp .USub a pos) (.int (-i)) := by
  intro B E z q
  refine UnaryOp_ (thn (ha B E z q) fun u z1 ⟨r1, k1⟩ => ?_)
  obtain ⟨t, rfl⟩ := vd_int r1
  exact neg_int ⟨⟨_, .int _ _⟩, kt k1 (keeps_tok _ _)⟩
theorem qe_ixA {e sl : Expr} {i : Int} {pos : Pos} {ds : List PyData} {d : PyData} (he : QE P w base h0 k env m e (.tuple ds)) (hi : QE P w base h0 k env m sl (.int i)) (ha : atI ds i = some d) (hl : ds.length ≤ sizeLine) (hs : ∀ o v, subscripted sl false o v = operate [o, v] (getItem o v) := by intro _ _; with_unfolding_all rfl) :
    QE P w base h0 k env m (.Subscript e sl pos) d := by
  intro B E z q
  refine Subscript_ (thn (he B E z q) fun u z1 ⟨r1, k1⟩ => thn (hi B E z1 (q.next k1)) fun x z2 ⟨r2, k2⟩ => ?_)
  obtain ⟨t, its, rfl, ht, hall⟩ := vd_tup (r1.up (kk k2))
  obtain ⟨t', rfl⟩ := vd_int r2
  have hn := line63
  have hz : its.size = ds.length := by
    have := hall.len
    rw [← this, Array.length_toList]
  obtain ⟨j, e1, e2, e3, e4, e5⟩ := atI_get ha
  obtain ⟨v, hv, rv⟩ := hall.get e2
  have hv' : its[j]? = some v := by rw [← Array.getElem?_toList]; exact hv
  refine subscriptTail_builtinR (x := v) ht.typeIs slot_tuple_getitem.lookup (getItem_tuple (j := j) (Q := fun r s' => r = v ∧ (Vd s'.heap r d ∧ Keeps z s')) ht (by omega) (by omega) (by rw [hz]; exact e1) hv' ⟨rfl, rv, kt k1 k2⟩) (hs _ _)
theorem qe_lt {a b : Expr} {i j : Int} {pos : Pos} (ha : QE P w base h0 k env m a (.int i)) (hb : QE P w base h0 k env m b (.int j)) (hm : behindInMarks .Lt b = false := by with_unfolding_all rfl) : QE P w base h0 k env m (.Compare a [.Lt] [b] pos) (.bool (decide (i < j))) :=
  qe_cmp (c := fun i j => decide (i < j)) ha hb (fun q => lt_int q) hm
theorem qe_ge {a b : Expr} {i j : Int} {pos : Pos} (ha : QE P w base h0 k env m a (.int i)) (hb : QE P w base h0 k env m b (.int j)) (hm : behindInMarks .GtE b = false := by with_unfolding_all rfl) : QE P w base h0 k env m (.Compare a [.GtE] [b] pos) (.bool (decide (j ≤ i))) :=
  qe_cmp (c := fun i j => decide (j ≤ i)) ha hb (fun q => ge_int q) hm
end
end Gr
set_option Elab.async false
set_option maxRecDepth 100000
set_option maxHeartbeats 4000000
set_option linter.all false
/-! Ours: t[::-1] of a tuple. -/
namespace Gr
open PySem PySem.Spec PyProof.Rows L2 GxR HT
end Gr
set_option Elab.async false
set_option maxRecDepth 100000
set_option maxHeartbeats 4000000
set_option linter.all false
/-! Ours: sorted(a tuple of numbers). -/
namespace Gr
open PySem PySem.Spec PyProof.Rows L2 GxR SrtO
end Gr
set_option Elab.async false
set_option maxRecDepth 100000
set_option maxHeartbeats 4000000
set_option linter.all false
/-! Ours: t.index(k) of a tuple of numbers. -/
namespace Gr
open PySem PySem.Spec PyProof.Rows L2 GxR
end Gr
set_option Elab.async false
set_option maxRecDepth 100000
set_option maxHeartbeats 4000000
set_option linter.all false
/-! Ours: a new tuple of which the whole object is known (frozen); its index(k); thawed when it is read once more. -/
namespace Gr
open PySem PySem.Spec PyProof.Rows L2 GxR
end Gr
set_option Elab.async false
set_option maxRecDepth 100000
set_option linter.all false
/-! Ours: the repr of a tuple of numbers; lists of numbers that are equal. -/
namespace Gr
open PySem PySem.Spec PyProof.Rows L2 GxR
theorem shown_num {i : Int} (h0 : 0 ≤ i) (h1 : i < 10 ^ 10) : (PyData.int i).shown.length ≤ 11 := by
  rw [PyData.shown_int]
  show (Str.ofString (toString i)).length ≤ 11
  rw [PySem.ofString_length]
  exact int_text_length_le10 (by decide) (by omega)
theorem showall_nums : ∀ {l : List Int}, (∀ i ∈ l, 0 ≤ i ∧ i < 10 ^ 10) → PyData.showableAll (l.map PyData.int) = true
  | [], _ => rfl
  | i :: l, h => by
    have ih := showall_nums (l := l) fun j hj => h j (List.mem_cons_of_mem _ hj)
    have h1 := h i List.mem_cons_self
    have h2 : i.natAbs.log2 < 1920 := by
      by_cases z : i.natAbs = 0
      · rw [z]; decide
      · exact Nat.lt_of_lt_of_le ((Nat.log2_lt z).mpr (show i.natAbs < 2 ^ 40 by omega)) (by decide)
    simp [PyData.showableAll, PyData.showable, ih, h2]
theorem depthall_nums : ∀ l : List Int, PyData.depthAll (l.map PyData.int) ≤ 2
  | [] => by simp [PyData.depthAll]
  | i :: l => by
    have := depthall_nums l
    simp only [List.map_cons, PyData.depthAll, PyData.depth]
    omega
theorem shown_tup_le (ds : List PyData) : (PyData.tuple ds).shown.length ≤ piled (PyData.shownAll ds) + 3 := by
  rw [PyData.shown_tuple]
  have e1 : ("(" : Str).length = 1 := by decide +kernel
  have e2 : (Str.ofString (if (ds.length == 1) = true then ",)" else ")")).length ≤ 2 := by
    split <;> decide +kernel
  cases ds with
  | nil => decide +kernel
  | cons d r =>
    have h := join_length_add (PyData.shownAll (d :: r)) (by simp [PyData.shownAll])
    rw [Str.length_append, Str.length_append]
    omega
theorem lay_nums : ∀ l : List Int, PyData.canLayAll0 (l.map PyData.int) = true
  | [] => rfl
  | i :: l => by
    have := lay_nums l
    simp [PyData.canLayAll0, PyData.canLay0, this]
theorem shaped_nums (l : List Int) : SeqAt.shaped (.list (l.map PyData.int)) = true := by
  have a := lay_nums l
  have b := depthall_nums l
  unfold SeqAt.shaped
  rw [Bool.and_eq_true, decide_eq_true_eq]
  exact ⟨by simp [PyData.canLay0, a], by simp only [PyData.depth]; omega⟩
theorem eqv_nums (l : List Int) : PyData.eqv (.list (l.map PyData.int)) (.list (l.map PyData.int)) = true :=
  SeqAt.eqv_refl _ (by have a := lay_nums l; simp [PyData.canLay0, a])
theorem dp_nums {K : PySem.W.Frag} {H : Hp} : ∀ l : List Int, DpAll K H (l.map V.int) (l.map PyData.int)
  | [] => .nil
  | i :: l => .cons (.int i) (dp_nums l)
end Gr
set_option Elab.async false
set_option maxRecDepth 100000
set_option maxHeartbeats 4000000
set_option linter.all false
/-! Ours: a dict display of one pair whose key is a tuple. -/
namespace Gr
open PySem PySem.Spec PyProof.Rows L2 GxR
end Gr
set_option Elab.async false
set_option maxRecDepth 100000
set_option linter.all false
/-! Ours: the repr of lists and tuples of small data: facts. -/
namespace Gr
open PySem PySem.Spec PyProof.Rows L2 GxR
def SmallD (k s : Nat) (d : PyData) : Prop := d.showable = true ∧ d.depth ≤ k ∧ d.shown.length ≤ s
theorem small_int {i : Int} (h0 : 0 ≤ i) (h1 : i < 10 ^ 10) : SmallD 2 11 (.int i) := by
  have a := showall_nums (l := [i]) (fun j hj => by rw [List.mem_singleton.mp hj]; exact ⟨h0, h1⟩)
  refine ⟨?_, by simp [PyData.depth], shown_num h0 h1⟩
  simpa [PyData.showableAll] using a
theorem showall_of : ∀ {ds : List PyData} {k s : Nat}, (∀ d ∈ ds, SmallD k s d) → PyData.showableAll ds = true
  | [], _, _, _ => rfl
  | d :: ds, k, s, h => by
    have ih := showall_of (ds := ds) fun x hx => h x (List.mem_cons_of_mem _ hx)
    simp [PyData.showableAll, ih, (h d List.mem_cons_self).1]
theorem depthall_of : ∀ {ds : List PyData} {k s : Nat}, (∀ d ∈ ds, SmallD k s d) → PyData.depthAll ds ≤ k + 1
  | [], _, _, _ => by simp [PyData.depthAll]
  | d :: ds, k, s, h => by
    have ih := depthall_of (ds := ds) fun x hx => h x (List.mem_cons_of_mem _ hx)
    have := (h d List.mem_cons_self).2.1
    simp only [PyData.depthAll]
    omega
theorem piled_of : ∀ {ds : List PyData} {k s : Nat}, (∀ d ∈ ds, SmallD k s d) → piled (PyData.shownAll ds) ≤ (s + 2) * ds.length
  | [], _, _, _ => by simp [PyData.shownAll, piled_nil]
  | d :: ds, k, s, h => by
    have ih := piled_of (ds := ds) fun x hx => h x (List.mem_cons_of_mem _ hx)
    have h1 := (h d List.mem_cons_self).2.2
    simp only [PyData.shownAll, piled_cons, List.length_cons, Nat.mul_succ]
    omega
theorem small_tup {ds : List PyData} {k s : Nat} (h : ∀ d ∈ ds, SmallD k s d) : SmallD (k + 2) ((s + 2) * ds.length + 3) (.tuple ds) := by
  have a := showall_of h
  have b := depthall_of h
  have c := piled_of h
  have d := shown_tup_le ds
  exact ⟨by simp [PyData.showable, a], by simp only [PyData.depth]; omega, by omega⟩
theorem SmallD.mono {k s k' s' : Nat} {d : PyData} (h : SmallD k s d) (a : k ≤ k') (b : s ≤ s') : SmallD k' s' d := ⟨h.1, Nat.le_trans h.2.1 a, Nat.le_trans h.2.2 b⟩
theorem SmallD.facts {k s : Nat} {d : PyData} (h : SmallD k s d) (a : k ≤ 60) (b : s ≤ 5000) : d.showable = true ∧ d.depth ≤ 60 ∧ d.shown.length ≤ sizeLine := by
  have mz : 5000 ≤ sizeLine := by decide
  exact ⟨h.1, Nat.le_trans h.2.1 a, Nat.le_trans h.2.2 (by omega)⟩
end Gr
set_option linter.all false
/-! Ours: the mathematics of patterns: a table of truths by rows, by columns; places as bits of a number. -/
namespace PM
/-- one row more: the sign c of the body, star or not; r the string, p the row ahead -/
def nrow (star : Bool) (c : Option Nat) (r : List Nat) (p : Nat → Bool) : Nat → Bool
  | 0 => p 0 && star
  | k + 1 => if star then p (k + 1) || nrow star c r p k else p k && (c == r[k]?)
def isSt (b : List Nat) (i : Nat) : Bool := b[i]? == some 42
/-- the first i signs of b fit the first k of r -/
def F (b r : List Nat) : Nat → Nat → Bool
  | 0 => fun k => k == 0
  | i + 1 => nrow (isSt b i) b[i]? r (F b r i)
/-! ### numbers as sets of places -/
end PM
set_option Elab.async false
set_option maxRecDepth 100000
set_option maxHeartbeats 4000000
set_option linter.all false
namespace KP
open PySem PySem.Spec PyProof.Rows L2 Gr GxR
def top (i : Nat) : Stmt := PySem.Challenge.pw_gentlerounds_k77_whole_dealt_crawlers_st.main.body.getD i (.Pass ⟨0, 0, 0, 0⟩)
abbrev s_opens : Stmt := top 5
abbrev s_next_open : Stmt := top 6
abbrev s_keeps_apart : Stmt := top 7
abbrev s_first_wrong_ask : Stmt := top 8
abbrev s_next_ask : Stmt := top 9
abbrev s_soonest_asks : Stmt := top 10
abbrev s_most_between : Stmt := top 11
abbrev s_most_within : Stmt := top 12
abbrev s_is_whole : Stmt := top 24
abbrev s_is_between : Stmt := top 25
abbrev s_is_tuple : Stmt := top 26
abbrev s_check_from : Stmt := top 28
abbrev s_check_between : Stmt := top 29
abbrev s_is_limit : Stmt := top 34
abbrev s_are_limits : Stmt := top 35
abbrev s_are_hours : Stmt := top 36
abbrev s_are_rules : Stmt := top 37
abbrev s_check_limits : Stmt := top 38
abbrev s_check_rules : Stmt := top 39
abbrev s_first_back : Stmt := top 40
abbrev s_check_asks : Stmt := top 41
abbrev s_check_amount : Stmt := top 42
abbrev s_is_polite : Stmt := top 43
abbrev s_first_wrong : Stmt := top 44
abbrev s_is_part : Stmt := top 48
abbrev s_check_parts : Stmt := top 49
abbrev s_broken_limit : Stmt := top 50
abbrev s_keep : Stmt := top 51
abbrev s_breaking : Stmt := top 52
abbrev s_crowded_row : Stmt := top 53
abbrev s_arrivals : Stmt := top 54
abbrev s_is_row_of : Stmt := top 55
abbrev s_dealt : Stmt := top 56
abbrev s_share_of : Stmt := top 57
abbrev s_most_crawlers : Stmt := top 58
abbrev s_span_of : Stmt := top 60
abbrev s_room : Stmt := top 61
abbrev s_has_room : Stmt := top 62
abbrev s_shifted : Stmt := top 63
abbrev s_init : Stmt := inClass (top 64) 0
abbrev s_rules : Stmt := inClass (top 64) 1
abbrev s_moment : Stmt := inClass (top 64) 2
abbrev s_counts : Stmt := inClass (top 64) 3
abbrev s_asked : Stmt := inClass (top 64) 4
abbrev s__check : Stmt := inClass (top 64) 5
abbrev s__counts_then : Stmt := inClass (top 64) 6
abbrev s__asked_then : Stmt := inClass (top 64) 7
abbrev s_lets : Stmt := inClass (top 64) 8
abbrev s_ask : Stmt := inClass (top 64) 9
abbrev s_soonest : Stmt := inClass (top 64) 10
abbrev s_undo : Stmt := inClass (top 64) 11
abbrev s_l_well : Stmt := top 66
abbrev s_l_pick : Stmt := top 67
abbrev s_l_one : Stmt := top 68
abbrev s_l_open : Stmt := top 69
abbrev s_l_wrong_at : Stmt := top 70
abbrev s_l_may : Stmt := top 71
abbrev s_l_soonest : Stmt := top 72
abbrev s_l_is_whole : Stmt := top 73
abbrev s_l_asked : Stmt := top 74
abbrev s_l_some_asks : Stmt := top 75
abbrev s_l_late : Stmt := top 76
abbrev s_l_due : Stmt := top 77
abbrev s_l_come : Stmt := top 78
abbrev s_l_row_formed : Stmt := top 79
abbrev s_l_one_more_right : Stmt := top 80
abbrev s_l_right : Stmt := top 81
abbrev s_law : Stmt := top 82
/-- a def whose code object stands at c -/
structure FunC (K : PySem.W.Frag) (x ql : Str) (st : Stmt) (f : Addr) (fd : FuncData) (c : Addr) : Prop where
  ex : ∃ (oc : Value) (od : Option Addr) (kV doc pm : Value) (an : Option Addr) (ct : Value) (osl : Array (Option Value)),
    fd = PySem.W.fnOf x ql (defArgs st) (defBody st) (defScope st) .none kV doc pm an (.ref c) ct ∧ K.lookup f = some ⟨oc, od, .func fd, osl⟩ ∧ PySem.W.codeIn K (.ref c) ql = true
  kp : PySem.W.keepIn K (.ref f) = true
theorem FunC.fun {K : PySem.W.Frag} {x ql : Str} {st : Stmt} {f : Addr} {fd : FuncData} {c : Addr} (F : FunC K x ql st f fd c) : Fun K x ql st f fd := by
  obtain ⟨⟨oc, od, kV, doc, pm, an, ct, osl, e1, e2, e3⟩, kp⟩ := F
  exact ⟨⟨oc, od, kV, doc, pm, an, .ref c, ct, osl, e1, e2, e3⟩, kp⟩
/-- such a def by its body; its code object is known there -/
theorem FunC.ok {P : Program} {w : World} {K : PySem.W.Frag} {mg : Str → Option Value} {base : Heap} {x ql : Str} {st : Stmt} {f c : Addr} {fd : FuncData} {N ps : List Str} {k : Nat} {sp : Sp} (F : FunC K x ql st f fd c) (S : FnScope N ps (defScope st)) (len : ∀ vs H Q E, sp vs H Q E → vs.length = ps.length)
    (hb : ∀ (A : Around) (outer : List Env) (s : Shared) (H : Hp) (vs : List V) (Q : VK) (E : XK), Room k (A.deeper (envOfC ql (defScope st) s.heap.objs.size f (.ref c))) → sp vs H Q E →
      ∃ t, PSs (cxOf CX0 P w K mg base N ql (defScope st) f (.ref c) A outer s H E).nox (defBody st) t ∧ t { nx := fun _ H' => Q .non H', rt := Q } (start N vs) H) : FnOk P w K mg base CX0 (k + 1) f fd ps sp := by
  obtain ⟨oc, od, kV, doc, pm, an, ct, osl, rfl, lk, hcd⟩ := F.ex
  refine fn_of lk hcd S len fun A outer s H vs Q E hr hsp => ?_
  obtain ⟨t, h, q⟩ := hb A outer s H vs Q E hr hsp
  exact ⟨t, h.nox, q⟩
/-- a def with defaults, by its body -/
theorem okN {P : Program} {w : World} {K : PySem.W.Frag} {mg : Str → Option Value} {base : Heap} {x qual : Str} {params : Arguments} {body : List Stmt} {scope : Scope} {dvs : List V} {kws : List (Str × V)} {f : Addr} {fd : FuncData} {N ps : List Str} {k : Nat} {sp : Sp} (F : FunD K x qual params body scope dvs kws f fd) (S : FnScope N ps scope) (len : ∀ vs H Q E, sp vs H Q E → vs.length = ps.length)
    (hb : ∀ (cdv : Value) (A : Around) (outer : List Env) (s : Shared) (H : Hp) (vs : List V) (Q : VK) (E : XK), Room k (A.deeper (envOfC qual scope s.heap.objs.size f cdv)) → sp vs H Q E →
      ∃ t, PSs (cxOf CX0 P w K mg base N qual scope f cdv A outer s H E).nox body t ∧ t { nx := fun _ H' => Q .non H', rt := Q } (start N vs) H) : FnOk P w K mg base CX0 (k + 1) f fd ps sp := F.ok S len fun cdv A outer s H vs Q E hr hsp => by
  obtain ⟨t, h, q⟩ := hb cdv A outer s H vs Q E hr hsp
  exact ⟨t, h.nox, q⟩
structure D (K : PySem.W.Frag) (mg : Str → Option Value) where
  f_opens : Addr
  d_opens : FuncData
  U_opens : Fun K "opens" "opens" s_opens f_opens d_opens
  g_opens : mg "opens" = some (.ref f_opens)
  f_next_open : Addr
  d_next_open : FuncData
  U_next_open : Fun K "next_open" "next_open" s_next_open f_next_open d_next_open
  g_next_open : mg "next_open" = some (.ref f_next_open)
  f_keeps_apart : Addr
  d_keeps_apart : FuncData
  c_keeps_apart : Addr
  P_keeps_apart : Addr
  V_keeps_apart : FunC K "keeps_apart" "keeps_apart" s_keeps_apart f_keeps_apart d_keeps_apart c_keeps_apart
  g_keeps_apart : mg "keeps_apart" = some (.ref f_keeps_apart)
  f_first_wrong_ask : Addr
  d_first_wrong_ask : FuncData
  U_first_wrong_ask : Fun K "first_wrong_ask" "first_wrong_ask" s_first_wrong_ask f_first_wrong_ask d_first_wrong_ask
  g_first_wrong_ask : mg "first_wrong_ask" = some (.ref f_first_wrong_ask)
  f_next_ask : Addr
  d_next_ask : FuncData
  U_next_ask : Fun K "next_ask" "next_ask" s_next_ask f_next_ask d_next_ask
  g_next_ask : mg "next_ask" = some (.ref f_next_ask)
  f_soonest_asks : Addr
  d_soonest_asks : FuncData
  U_soonest_asks : Fun K "soonest_asks" "soonest_asks" s_soonest_asks f_soonest_asks d_soonest_asks
  g_soonest_asks : mg "soonest_asks" = some (.ref f_soonest_asks)
  f_most_between : Addr
  d_most_between : FuncData
  U_most_between : Fun K "most_between" "most_between" s_most_between f_most_between d_most_between
  g_most_between : mg "most_between" = some (.ref f_most_between)
  f_most_within : Addr
  d_most_within : FuncData
  U_most_within : Fun K "most_within" "most_within" s_most_within f_most_within d_most_within
  g_most_within : mg "most_within" = some (.ref f_most_within)
  f_is_whole : Addr
  d_is_whole : FuncData
  U_is_whole : Fun K "is_whole" "is_whole" s_is_whole f_is_whole d_is_whole
  g_is_whole : mg "is_whole" = some (.ref f_is_whole)
  f_is_between : Addr
  d_is_between : FuncData
  U_is_between : Fun K "is_between" "is_between" s_is_between f_is_between d_is_between
  g_is_between : mg "is_between" = some (.ref f_is_between)
  f_is_tuple : Addr
  d_is_tuple : FuncData
  U_is_tuple : Fun K "is_tuple" "is_tuple" s_is_tuple f_is_tuple d_is_tuple
  g_is_tuple : mg "is_tuple" = some (.ref f_is_tuple)
  f_check_from : Addr
  d_check_from : FuncData
  U_check_from : Fun K "check_from" "check_from" s_check_from f_check_from d_check_from
  g_check_from : mg "check_from" = some (.ref f_check_from)
  f_check_between : Addr
  d_check_between : FuncData
  U_check_between : Fun K "check_between" "check_between" s_check_between f_check_between d_check_between
  g_check_between : mg "check_between" = some (.ref f_check_between)
  f_is_limit : Addr
  d_is_limit : FuncData
  U_is_limit : Fun K "is_limit" "is_limit" s_is_limit f_is_limit d_is_limit
  g_is_limit : mg "is_limit" = some (.ref f_is_limit)
  f_are_limits : Addr
  d_are_limits : FuncData
  c_are_limits : Addr
  P_are_limits : Addr
  V_are_limits : FunC K "are_limits" "are_limits" s_are_limits f_are_limits d_are_limits c_are_limits
  g_are_limits : mg "are_limits" = some (.ref f_are_limits)
  f_are_hours : Addr
  d_are_hours : FuncData
  c_are_hours : Addr
  P_are_hours : Addr
  V_are_hours : FunC K "are_hours" "are_hours" s_are_hours f_are_hours d_are_hours c_are_hours
  g_are_hours : mg "are_hours" = some (.ref f_are_hours)
  f_are_rules : Addr
  d_are_rules : FuncData
  U_are_rules : Fun K "are_rules" "are_rules" s_are_rules f_are_rules d_are_rules
  g_are_rules : mg "are_rules" = some (.ref f_are_rules)
  f_check_limits : Addr
  d_check_limits : FuncData
  U_check_limits : Fun K "check_limits" "check_limits" s_check_limits f_check_limits d_check_limits
  g_check_limits : mg "check_limits" = some (.ref f_check_limits)
  f_check_rules : Addr
  d_check_rules : FuncData
  U_check_rules : Fun K "check_rules" "check_rules" s_check_rules f_check_rules d_check_rules
  g_check_rules : mg "check_rules" = some (.ref f_check_rules)
  f_first_back : Addr
  d_first_back : FuncData
  U_first_back : Fun K "first_back" "first_back" s_first_back f_first_back d_first_back
  g_first_back : mg "first_back" = some (.ref f_first_back)
  f_check_asks : Addr
  d_check_asks : FuncData
  U_check_asks : Fun K "check_asks" "check_asks" s_check_asks f_check_asks d_check_asks
  g_check_asks : mg "check_asks" = some (.ref f_check_asks)
  f_check_amount : Addr
  d_check_amount : FuncData
  U_check_amount : Fun K "check_amount" "check_amount" s_check_amount f_check_amount d_check_amount
  g_check_amount : mg "check_amount" = some (.ref f_check_amount)
  f_is_polite : Addr
  d_is_polite : FuncData
  U_is_polite : Fun K "is_polite" "is_polite" s_is_polite f_is_polite d_is_polite
  g_is_polite : mg "is_polite" = some (.ref f_is_polite)
  f_first_wrong : Addr
  d_first_wrong : FuncData
  U_first_wrong : Fun K "first_wrong" "first_wrong" s_first_wrong f_first_wrong d_first_wrong
  g_first_wrong : mg "first_wrong" = some (.ref f_first_wrong)
  f_is_part : Addr
  d_is_part : FuncData
  U_is_part : Fun K "is_part" "is_part" s_is_part f_is_part d_is_part
  g_is_part : mg "is_part" = some (.ref f_is_part)
  f_check_parts : Addr
  d_check_parts : FuncData
  U_check_parts : Fun K "check_parts" "check_parts" s_check_parts f_check_parts d_check_parts
  g_check_parts : mg "check_parts" = some (.ref f_check_parts)
  f_broken_limit : Addr
  d_broken_limit : FuncData
  U_broken_limit : Fun K "broken_limit" "broken_limit" s_broken_limit f_broken_limit d_broken_limit
  g_broken_limit : mg "broken_limit" = some (.ref f_broken_limit)
  f_keep : Addr
  d_keep : FuncData
  U_keep : Fun K "keep" "keep" s_keep f_keep d_keep
  g_keep : mg "keep" = some (.ref f_keep)
  f_breaking : Addr
  d_breaking : FuncData
  U_breaking : Fun K "breaking" "breaking" s_breaking f_breaking d_breaking
  g_breaking : mg "breaking" = some (.ref f_breaking)
  f_crowded_row : Addr
  d_crowded_row : FuncData
  U_crowded_row : Fun K "crowded_row" "crowded_row" s_crowded_row f_crowded_row d_crowded_row
  g_crowded_row : mg "crowded_row" = some (.ref f_crowded_row)
  f_arrivals : Addr
  d_arrivals : FuncData
  U_arrivals : Fun K "arrivals" "arrivals" s_arrivals f_arrivals d_arrivals
  g_arrivals : mg "arrivals" = some (.ref f_arrivals)
  f_is_row_of : Addr
  d_is_row_of : FuncData
  c_is_row_of : Addr
  P_is_row_of : Addr
  V_is_row_of : FunC K "is_row_of" "is_row_of" s_is_row_of f_is_row_of d_is_row_of c_is_row_of
  g_is_row_of : mg "is_row_of" = some (.ref f_is_row_of)
  f_dealt : Addr
  d_dealt : FuncData
  c_dealt : Addr
  P_dealt : Addr
  V_dealt : FunC K "dealt" "dealt" s_dealt f_dealt d_dealt c_dealt
  g_dealt : mg "dealt" = some (.ref f_dealt)
  f_share_of : Addr
  d_share_of : FuncData
  U_share_of : Fun K "share_of" "share_of" s_share_of f_share_of d_share_of
  g_share_of : mg "share_of" = some (.ref f_share_of)
  f_most_crawlers : Addr
  d_most_crawlers : FuncData
  U_most_crawlers : Fun K "most_crawlers" "most_crawlers" s_most_crawlers f_most_crawlers d_most_crawlers
  g_most_crawlers : mg "most_crawlers" = some (.ref f_most_crawlers)
  f_span_of : Addr
  d_span_of : FuncData
  U_span_of : Fun K "span_of" "span_of" s_span_of f_span_of d_span_of
  g_span_of : mg "span_of" = some (.ref f_span_of)
  f_room : Addr
  d_room : FuncData
  U_room : Fun K "room" "room" s_room f_room d_room
  g_room : mg "room" = some (.ref f_room)
  f_has_room : Addr
  d_has_room : FuncData
  U_has_room : Fun K "has_room" "has_room" s_has_room f_has_room d_has_room
  g_has_room : mg "has_room" = some (.ref f_has_room)
  f_shifted : Addr
  d_shifted : FuncData
  U_shifted : Fun K "shifted" "shifted" s_shifted f_shifted d_shifted
  g_shifted : mg "shifted" = some (.ref f_shifted)
  f_init : Addr
  d_init : FuncData
  W_init : FunD K "__init__" "Monitor.__init__" (defArgs s_init) (defBody s_init) (defScope s_init) [] [("moment", .int 0)] f_init d_init
  f_rules : Addr
  d_rules : FuncData
  U_rules : Fun K "rules" "Monitor.rules" s_rules f_rules d_rules
  f_moment : Addr
  d_moment : FuncData
  U_moment : Fun K "moment" "Monitor.moment" s_moment f_moment d_moment
  f_counts : Addr
  d_counts : FuncData
  U_counts : Fun K "counts" "Monitor.counts" s_counts f_counts d_counts
  f_asked : Addr
  d_asked : FuncData
  U_asked : Fun K "asked" "Monitor.asked" s_asked f_asked d_asked
  f__check : Addr
  d__check : FuncData
  U__check : Fun K "_check" "Monitor._check" s__check f__check d__check
  f__counts_then : Addr
  d__counts_then : FuncData
  U__counts_then : Fun K "_counts_then" "Monitor._counts_then" s__counts_then f__counts_then d__counts_then
  f__asked_then : Addr
  d__asked_then : FuncData
  U__asked_then : Fun K "_asked_then" "Monitor._asked_then" s__asked_then f__asked_then d__asked_then
  f_lets : Addr
  d_lets : FuncData
  W_lets : FunD K "lets" "Monitor.lets" (defArgs s_lets) (defBody s_lets) (defScope s_lets) [.int 1] [] f_lets d_lets
  f_ask : Addr
  d_ask : FuncData
  W_ask : FunD K "ask" "Monitor.ask" (defArgs s_ask) (defBody s_ask) (defScope s_ask) [.int 1] [] f_ask d_ask
  f_soonest : Addr
  d_soonest : FuncData
  W_soonest : FunD K "soonest" "Monitor.soonest" (defArgs s_soonest) (defBody s_soonest) (defScope s_soonest) [.int 1] [] f_soonest d_soonest
  f_undo : Addr
  d_undo : FuncData
  U_undo : Fun K "undo" "Monitor.undo" s_undo f_undo d_undo
  f_l_well : Addr
  d_l_well : FuncData
  U_l_well : Fun K "_law_well" "_law_well" s_l_well f_l_well d_l_well
  g_l_well : mg "_law_well" = some (.ref f_l_well)
  f_l_pick : Addr
  d_l_pick : FuncData
  U_l_pick : Fun K "_law_pick" "_law_pick" s_l_pick f_l_pick d_l_pick
  g_l_pick : mg "_law_pick" = some (.ref f_l_pick)
  f_l_one : Addr
  d_l_one : FuncData
  U_l_one : Fun K "_law_one" "_law_one" s_l_one f_l_one d_l_one
  g_l_one : mg "_law_one" = some (.ref f_l_one)
  f_l_open : Addr
  d_l_open : FuncData
  U_l_open : Fun K "_law_open" "_law_open" s_l_open f_l_open d_l_open
  g_l_open : mg "_law_open" = some (.ref f_l_open)
  f_l_wrong_at : Addr
  d_l_wrong_at : FuncData
  U_l_wrong_at : Fun K "_law_wrong_at" "_law_wrong_at" s_l_wrong_at f_l_wrong_at d_l_wrong_at
  g_l_wrong_at : mg "_law_wrong_at" = some (.ref f_l_wrong_at)
  f_l_may : Addr
  d_l_may : FuncData
  U_l_may : Fun K "_law_may" "_law_may" s_l_may f_l_may d_l_may
  g_l_may : mg "_law_may" = some (.ref f_l_may)
  f_l_soonest : Addr
  d_l_soonest : FuncData
  U_l_soonest : Fun K "_law_soonest" "_law_soonest" s_l_soonest f_l_soonest d_l_soonest
  g_l_soonest : mg "_law_soonest" = some (.ref f_l_soonest)
  f_l_is_whole : Addr
  d_l_is_whole : FuncData
  U_l_is_whole : Fun K "_law_is_whole" "_law_is_whole" s_l_is_whole f_l_is_whole d_l_is_whole
  g_l_is_whole : mg "_law_is_whole" = some (.ref f_l_is_whole)
  f_l_asked : Addr
  d_l_asked : FuncData
  U_l_asked : Fun K "_law_asked" "_law_asked" s_l_asked f_l_asked d_l_asked
  g_l_asked : mg "_law_asked" = some (.ref f_l_asked)
  f_l_some_asks : Addr
  d_l_some_asks : FuncData
  U_l_some_asks : Fun K "_law_some_asks" "_law_some_asks" s_l_some_asks f_l_some_asks d_l_some_asks
  g_l_some_asks : mg "_law_some_asks" = some (.ref f_l_some_asks)
  f_l_late : Addr
  d_l_late : FuncData
  U_l_late : Fun K "_law_late" "_law_late" s_l_late f_l_late d_l_late
  g_l_late : mg "_law_late" = some (.ref f_l_late)
  f_l_due : Addr
  d_l_due : FuncData
  U_l_due : Fun K "_law_due" "_law_due" s_l_due f_l_due d_l_due
  g_l_due : mg "_law_due" = some (.ref f_l_due)
  f_l_come : Addr
  d_l_come : FuncData
  U_l_come : Fun K "_law_come" "_law_come" s_l_come f_l_come d_l_come
  g_l_come : mg "_law_come" = some (.ref f_l_come)
  f_l_row_formed : Addr
  d_l_row_formed : FuncData
  U_l_row_formed : Fun K "_law_row_formed" "_law_row_formed" s_l_row_formed f_l_row_formed d_l_row_formed
  g_l_row_formed : mg "_law_row_formed" = some (.ref f_l_row_formed)
  f_l_one_more_right : Addr
  d_l_one_more_right : FuncData
  U_l_one_more_right : Fun K "_law_one_more_right" "_law_one_more_right" s_l_one_more_right f_l_one_more_right d_l_one_more_right
  g_l_one_more_right : mg "_law_one_more_right" = some (.ref f_l_one_more_right)
  f_l_right : Addr
  d_l_right : FuncData
  U_l_right : Fun K "_law_right" "_law_right" s_l_right f_l_right d_l_right
  g_l_right : mg "_law_right" = some (.ref f_l_right)
  f_law : Addr
  d_law : FuncData
  U_law : Fun K "law" "law" s_law f_law d_law
  g_law : mg "law" = some (.ref f_law)
  C_Monitor : Addr
  cl_Monitor : Cls K C_Monitor
  g_Monitor : mg "Monitor" = some (.ref C_Monitor)
  mk_Monitor : Mk K C_Monitor f_init
  n__asked : NoAttr K C_Monitor "_asked"
  n__counts : NoAttr K C_Monitor "_counts"
  n__earlier : NoAttr K C_Monitor "_earlier"
  n__moment : NoAttr K C_Monitor "_moment"
  n__rules : NoAttr K C_Monitor "_rules"
  p_rules : Addr
  Pr_rules : PropOf K C_Monitor "rules" p_rules f_rules
  p_moment : Addr
  Pr_moment : PropOf K C_Monitor "moment" p_moment f_moment
  p_counts : Addr
  Pr_counts : PropOf K C_Monitor "counts" p_counts f_counts
  p_asked : Addr
  Pr_asked : PropOf K C_Monitor "asked" p_asked f_asked
  M__check : Meth K C_Monitor "_check" f__check
  M__counts_then : Meth K C_Monitor "_counts_then" f__counts_then
  M__asked_then : Meth K C_Monitor "_asked_then" f__asked_then
  M_lets : Meth K C_Monitor "lets" f_lets
  M_ask : Meth K C_Monitor "ask" f_ask
  M_soonest : Meth K C_Monitor "soonest" f_soonest
  M_undo : Meth K C_Monitor "undo" f_undo
  a_ALWAYS : Addr
  g_ALWAYS : mg "ALWAYS" = some (.ref a_ALWAYS)
  k_ALWAYS : ∃ (o : Obj) (its : Array Value) (n : Nat), K.lookup a_ALWAYS = some o ∧ o.cls = .type "tuple" ∧ o.data = .seq its n ∧ its.size ≤ sizeLine ∧ Vals [V.int 1] its.toList
  t_MOST_ASKS : Tok
  g_MOST_ASKS : mg "MOST_ASKS" = some (.int 6 t_MOST_ASKS)
  t_WIDEST : Tok
  g_WIDEST : mg "WIDEST" = some (.int 12 t_WIDEST)
  t_MOST_PAIRS : Tok
  g_MOST_PAIRS : mg "MOST_PAIRS" = some (.int 4 t_MOST_PAIRS)
  t_LONGEST_ROW : Tok
  g_LONGEST_ROW : mg "LONGEST_ROW" = some (.int 200 t_LONGEST_ROW)
  t_MOST_MOMENTS : Tok
  g_MOST_MOMENTS : mg "MOST_MOMENTS" = some (.int 100 t_MOST_MOMENTS)
  t_MOST_PARTS : Tok
  g_MOST_PARTS : mg "MOST_PARTS" = some (.int 6 t_MOST_PARTS)
  t_LATEST : Tok
  g_LATEST : mg "LATEST" = some (.int 24 t_LATEST)
  abs : mg "abs" = none
  all : mg "all" = none
  any : mg "any" = none
  bool : mg "bool" = none
  divmod : mg "divmod" = none
  enumerate : mg "enumerate" = none
  int : mg "int" = none
  isinstance : mg "isinstance" = none
  len : mg "len" = none
  list : mg "list" = none
  max : mg "max" = none
  min : mg "min" = none
  property : mg "property" = none
  range : mg "range" = none
  repr : mg "repr" = none
  sorted : mg "sorted" = none
  sum : mg "sum" = none
  tuple : mg "tuple" = none
namespace D
variable {K : PySem.W.Frag} {mg : Str → Option Value} (T : D K mg)
theorem b_opens : Binds K T.d_opens ["hours", "moment"] [] := T.U_opens.binds fun _ _ _ _ _ _ us hl => match us, hl with | [_, _], _ => rfl
theorem b_next_open : Binds K T.d_next_open ["hours", "moment"] [] := T.U_next_open.binds fun _ _ _ _ _ _ us hl => match us, hl with | [_, _], _ => rfl
theorem U_keeps_apart : Fun K "keeps_apart" "keeps_apart" s_keeps_apart T.f_keeps_apart T.d_keeps_apart := T.V_keeps_apart.fun
theorem b_keeps_apart : Binds K T.d_keeps_apart ["limits", "asks", "moment"] [] := T.U_keeps_apart.binds fun _ _ _ _ _ _ us hl => match us, hl with | [_, _, _], _ => rfl
theorem b_first_wrong_ask : Binds K T.d_first_wrong_ask ["rules", "asks"] [] := T.U_first_wrong_ask.binds fun _ _ _ _ _ _ us hl => match us, hl with | [_, _], _ => rfl
theorem b_next_ask : Binds K T.d_next_ask ["rules", "asks", "since"] [] := T.U_next_ask.binds fun _ _ _ _ _ _ us hl => match us, hl with | [_, _, _], _ => rfl
theorem b_soonest_asks : Binds K T.d_soonest_asks ["rules", "asks", "many", "since"] [] := T.U_soonest_asks.binds fun _ _ _ _ _ _ us hl => match us, hl with | [_, _, _, _], _ => rfl
theorem b_most_between : Binds K T.d_most_between ["rules", "start", "end"] [] := T.U_most_between.binds fun _ _ _ _ _ _ us hl => match us, hl with | [_, _, _], _ => rfl
theorem b_most_within : Binds K T.d_most_within ["limits", "moments"] [] := T.U_most_within.binds fun _ _ _ _ _ _ us hl => match us, hl with | [_, _], _ => rfl
theorem b_is_whole : Binds K T.d_is_whole ["value"] [] := T.U_is_whole.binds fun _ _ _ _ _ _ us hl => match us, hl with | [_], _ => rfl
theorem b_is_between : Binds K T.d_is_between ["value", "low", "high"] [] := T.U_is_between.binds fun _ _ _ _ _ _ us hl => match us, hl with | [_, _, _], _ => rfl
theorem b_is_tuple : Binds K T.d_is_tuple ["value", "low", "high"] [] := T.U_is_tuple.binds fun _ _ _ _ _ _ us hl => match us, hl with | [_, _, _], _ => rfl
theorem b_check_from : Binds K T.d_check_from ["given", "low"] [] := T.U_check_from.binds fun _ _ _ _ _ _ us hl => match us, hl with | [_, _], _ => rfl
theorem b_check_between : Binds K T.d_check_between ["given", "low", "high"] [] := T.U_check_between.binds fun _ _ _ _ _ _ us hl => match us, hl with | [_, _, _], _ => rfl
theorem b_is_limit : Binds K T.d_is_limit ["value"] [] := T.U_is_limit.binds fun _ _ _ _ _ _ us hl => match us, hl with | [_], _ => rfl
theorem U_are_limits : Fun K "are_limits" "are_limits" s_are_limits T.f_are_limits T.d_are_limits := T.V_are_limits.fun
theorem b_are_limits : Binds K T.d_are_limits ["value"] [] := T.U_are_limits.binds fun _ _ _ _ _ _ us hl => match us, hl with | [_], _ => rfl
theorem U_are_hours : Fun K "are_hours" "are_hours" s_are_hours T.f_are_hours T.d_are_hours := T.V_are_hours.fun
theorem b_are_hours : Binds K T.d_are_hours ["value"] [] := T.U_are_hours.binds fun _ _ _ _ _ _ us hl => match us, hl with | [_], _ => rfl
theorem b_are_rules : Binds K T.d_are_rules ["value"] [] := T.U_are_rules.binds fun _ _ _ _ _ _ us hl => match us, hl with | [_], _ => rfl
theorem b_check_limits : Binds K T.d_check_limits ["given"] [] := T.U_check_limits.binds fun _ _ _ _ _ _ us hl => match us, hl with | [_], _ => rfl
theorem b_check_rules : Binds K T.d_check_rules ["given"] [] := T.U_check_rules.binds fun _ _ _ _ _ _ us hl => match us, hl with | [_], _ => rfl
theorem b_first_back : Binds K T.d_first_back ["values"] [] := T.U_first_back.binds fun _ _ _ _ _ _ us hl => match us, hl with | [_], _ => rfl
theorem b_check_asks : Binds K T.d_check_asks ["given"] [] := T.U_check_asks.binds fun _ _ _ _ _ _ us hl => match us, hl with | [_], _ => rfl
theorem b_check_amount : Binds K T.d_check_amount ["given"] [] := T.U_check_amount.binds fun _ _ _ _ _ _ us hl => match us, hl with | [_], _ => rfl
theorem b_is_polite : Binds K T.d_is_polite ["rules", "asks"] [] := T.U_is_polite.binds fun _ _ _ _ _ _ us hl => match us, hl with | [_, _], _ => rfl
theorem b_first_wrong : Binds K T.d_first_wrong ["rules", "asks"] [] := T.U_first_wrong.binds fun _ _ _ _ _ _ us hl => match us, hl with | [_, _], _ => rfl
theorem b_is_part : Binds K T.d_is_part ["value"] [] := T.U_is_part.binds fun _ _ _ _ _ _ us hl => match us, hl with | [_], _ => rfl
theorem b_check_parts : Binds K T.d_check_parts ["given"] [] := T.U_check_parts.binds fun _ _ _ _ _ _ us hl => match us, hl with | [_], _ => rfl
theorem b_broken_limit : Binds K T.d_broken_limit ["parts", "shared"] [] := T.U_broken_limit.binds fun _ _ _ _ _ _ us hl => match us, hl with | [_, _], _ => rfl
theorem b_keep : Binds K T.d_keep ["parts", "shared"] [] := T.U_keep.binds fun _ _ _ _ _ _ us hl => match us, hl with | [_, _], _ => rfl
theorem b_breaking : Binds K T.d_breaking ["parts", "shared"] [] := T.U_breaking.binds fun _ _ _ _ _ _ us hl => match us, hl with | [_, _], _ => rfl
theorem b_crowded_row : Binds K T.d_crowded_row ["part", "meeting", "wide", "many"] [] := T.U_crowded_row.binds fun _ _ _ _ _ _ us hl => match us, hl with | [_, _, _, _], _ => rfl
theorem b_arrivals : Binds K T.d_arrivals ["parts", "rows"] [] := T.U_arrivals.binds fun _ _ _ _ _ _ us hl => match us, hl with | [_, _], _ => rfl
theorem U_is_row_of : Fun K "is_row_of" "is_row_of" s_is_row_of T.f_is_row_of T.d_is_row_of := T.V_is_row_of.fun
theorem b_is_row_of : Binds K T.d_is_row_of ["part", "value"] [] := T.U_is_row_of.binds fun _ _ _ _ _ _ us hl => match us, hl with | [_, _], _ => rfl
theorem U_dealt : Fun K "dealt" "dealt" s_dealt T.f_dealt T.d_dealt := T.V_dealt.fun
theorem b_dealt : Binds K T.d_dealt ["shared", "many", "late"] [] := T.U_dealt.binds fun _ _ _ _ _ _ us hl => match us, hl with | [_, _, _], _ => rfl
theorem b_share_of : Binds K T.d_share_of ["shared", "many", "late", "crawler"] [] := T.U_share_of.binds fun _ _ _ _ _ _ us hl => match us, hl with | [_, _, _, _], _ => rfl
theorem b_most_crawlers : Binds K T.d_most_crawlers ["limits", "late", "shared"] [] := T.U_most_crawlers.binds fun _ _ _ _ _ _ us hl => match us, hl with | [_, _, _], _ => rfl
theorem b_span_of : Binds K T.d_span_of ["limits"] [] := T.U_span_of.binds fun _ _ _ _ _ _ us hl => match us, hl with | [_], _ => rfl
theorem b_room : Binds K T.d_room ["rules", "moment", "counts"] [] := T.U_room.binds fun _ _ _ _ _ _ us hl => match us, hl with | [_, _, _], _ => rfl
theorem b_has_room : Binds K T.d_has_room ["rules", "moment", "counts", "many"] [] := T.U_has_room.binds fun _ _ _ _ _ _ us hl => match us, hl with | [_, _, _, _], _ => rfl
theorem b_shifted : Binds K T.d_shifted ["counts", "many", "moments"] [] := T.U_shifted.binds fun _ _ _ _ _ _ us hl => match us, hl with | [_, _, _], _ => rfl
theorem b1_init : ∃ ds, Vals [V.int 0] ds ∧ Binds K T.d_init ["self", "rules", "moment"] ds :=
  T.W_init.binds0 2 (by decide) rfl fun D doc pm an cdv ct us ks h1 h2 => match us, ks, h1, h2 with
    | [_, _], [_], _, _ => ⟨_, _, _, _, _, _, rfl, rfl, rfl⟩
theorem b__check : Binds K T.d__check ["self", "moment", "many"] [] := T.U__check.binds fun _ _ _ _ _ _ us hl => match us, hl with | [_, _, _], _ => rfl
theorem b__counts_then : Binds K T.d__counts_then ["self", "moment"] [] := T.U__counts_then.binds fun _ _ _ _ _ _ us hl => match us, hl with | [_, _], _ => rfl
theorem b__asked_then : Binds K T.d__asked_then ["self", "moment"] [] := T.U__asked_then.binds fun _ _ _ _ _ _ us hl => match us, hl with | [_, _], _ => rfl
theorem b_lets : Binds K T.d_lets ["self", "moment", "many"] [] := by
  obtain ⟨ds, r, b⟩ := T.W_lets.binds1 (ps := ["self", "moment", "many"]) 3 1 (by decide) rfl fun T kV doc pm an cdv ct us its h1 h2 => match us, its, h1, h2 with
    | [_, _, _], [_], _, _ => ⟨_, rfl, rfl⟩
  cases r
  exact b
theorem b_ask : Binds K T.d_ask ["self", "moment", "many"] [] := by
  obtain ⟨ds, r, b⟩ := T.W_ask.binds1 (ps := ["self", "moment", "many"]) 3 1 (by decide) rfl fun T kV doc pm an cdv ct us its h1 h2 => match us, its, h1, h2 with
    | [_, _, _], [_], _, _ => ⟨_, rfl, rfl⟩
  cases r
  exact b
theorem b_l_well : Binds K T.d_l_well ["_law_script", "_law_turn"] [] := T.U_l_well.binds fun _ _ _ _ _ _ us hl => match us, hl with | [_, _], _ => rfl
theorem b_l_pick : Binds K T.d_l_pick ["_law_well_here", "_law_top"] [] := T.U_l_pick.binds fun _ _ _ _ _ _ us hl => match us, hl with | [_, _], _ => rfl
theorem b_l_one : Binds K T.d_l_one ["_law_well_here", "_law_some"] [] := T.U_l_one.binds fun _ _ _ _ _ _ us hl => match us, hl with | [_, _], _ => rfl
theorem b_l_open : Binds K T.d_l_open ["_law_clock", "_law_time"] [] := T.U_l_open.binds fun _ _ _ _ _ _ us hl => match us, hl with | [_, _], _ => rfl
theorem b_l_wrong_at : Binds K T.d_l_wrong_at ["_law_pairs", "_law_clock", "_law_row"] [] := T.U_l_wrong_at.binds fun _ _ _ _ _ _ us hl => match us, hl with | [_, _, _], _ => rfl
theorem b_l_may : Binds K T.d_l_may ["_law_pairs", "_law_clock", "_law_row", "_law_time", "_law_number"] [] := T.U_l_may.binds fun _ _ _ _ _ _ us hl => match us, hl with | [_, _, _, _, _], _ => rfl
theorem b_l_soonest : Binds K T.d_l_soonest ["_law_pairs", "_law_clock", "_law_row", "_law_number", "_law_start"] [] := T.U_l_soonest.binds fun _ _ _ _ _ _ us hl => match us, hl with | [_, _, _, _, _], _ => rfl
theorem b_l_is_whole : Binds K T.d_l_is_whole ["_law_value"] [] := T.U_l_is_whole.binds fun _ _ _ _ _ _ us hl => match us, hl with | [_], _ => rfl
theorem b_l_asked : Binds K T.d_l_asked ["_law_monitor", "_law_time", "_law_number"] [] := T.U_l_asked.binds fun _ _ _ _ _ _ us hl => match us, hl with | [_, _, _], _ => rfl
theorem b_l_some_asks : Binds K T.d_l_some_asks ["_law_well_here", "_law_pairs"] [] := T.U_l_some_asks.binds fun _ _ _ _ _ _ us hl => match us, hl with | [_, _], _ => rfl
theorem b_l_late : Binds K T.d_l_late ["_law_well_here", "_law_asks", "_law_delay"] [] := T.U_l_late.binds fun _ _ _ _ _ _ us hl => match us, hl with | [_, _, _], _ => rfl
theorem b_l_due : Binds K T.d_l_due ["_law_shares", "_law_number", "_law_delay"] [] := T.U_l_due.binds fun _ _ _ _ _ _ us hl => match us, hl with | [_, _, _], _ => rfl
theorem b_l_come : Binds K T.d_l_come ["_law_lines"] [] := T.U_l_come.binds fun _ _ _ _ _ _ us hl => match us, hl with | [_], _ => rfl
theorem b_l_row_formed : Binds K T.d_l_row_formed ["_law_pairs", "_law_delay", "_law_row"] [] := T.U_l_row_formed.binds fun _ _ _ _ _ _ us hl => match us, hl with | [_, _, _], _ => rfl
theorem b_l_one_more_right : Binds K T.d_l_one_more_right ["_law_pairs", "_law_delay", "_law_shares"] [] := T.U_l_one_more_right.binds fun _ _ _ _ _ _ us hl => match us, hl with | [_, _, _], _ => rfl
theorem b_l_right : Binds K T.d_l_right ["_law_well_here"] [] := T.U_l_right.binds fun _ _ _ _ _ _ us hl => match us, hl with | [_], _ => rfl
end D
end KP
set_option Elab.async false
set_option maxRecDepth 100000
set_option maxHeartbeats 4000000
set_option linter.all false
/-! Ours: asks that keep apart. -/
namespace KP
open PySem PySem.Spec PyProof.Rows L2 Gr GxR
def inD (q : Int × Int) : PyData × PyData := (.int q.1, .int q.2)
/-- the look at one pair: fewer asks than it counts, or the one so many back is far enough -/
def apI (ns : List Int) (t : Int) (q : Int × Int) : Bool := decide (((ns.length : Nat) : Int) < q.1) || (match atI ns (-q.1) with
  | some x => decide (q.2 ≤ t - x)
  | none => false)
def numsD : List PyData → List Int
  | [] => []
  | .int n :: l => n :: numsD l
  | _ :: l => 0 :: numsD l
theorem nums_ints : ∀ ns : List Int, numsD (ns.map PyData.int) = ns
  | [] => rfl
  | n :: l => congrArg (n :: ·) (nums_ints l)
def apartB : List PyData → PyData × PyData → Bool
  | [.tuple as, .int t], (.int mo, .int wi) => apI (numsD as) t (mo, wi)
  | _, _ => false
def domA (fd : List PyData) (q : PyData × PyData) : Prop := ∃ (ns : List Int) (t : Int) (p : Int × Int), fd = [.tuple (ns.map PyData.int), .int t] ∧ q = inD p ∧ 1 ≤ p.1
def spApart (L : List Addr) : Sp := fun vs H Q _ => ∃ (lv av : V) (t : Int) (ps : List (Int × Int)) (ns : List Int), vs = [lv, av, .int t] ∧ Od H lv (.tuple ((ps.map inD).map tw)) ∧ (∀ p ∈ ps, 1 ≤ p.1) ∧ Od H av (.tuple (ns.map PyData.int)) ∧ Tb L H ∧ ∀ H', UpL L H H' → Q (.bl (ps.all (apI ns t))) H'
section
variable {P : Program} {w : World} {K : PySem.W.Frag} {mg : Str → Option Value} {base : Heap}
theorem sc_apart : FnScope ["limits", "asks", "moment"] ["limits", "asks", "moment"] (defScope s_keeps_apart) := ⟨rfl, rfl, rfl, by decide +kernel, rfl, by decide +kernel, by decide +kernel⟩
theorem atI_map {ns : List Int} {i x : Int} (h : atI ns i = some x) : atI (ns.map PyData.int) i = some (.int x) := by
  unfold atI at h ⊢
  rw [List.length_map]
  cases e : ixN ns.length i with
  | none => rw [e] at h; cases h
  | some j =>
    rw [e] at h
    have h : ns[j]? = some x := h
    show (ns.map PyData.int)[j]? = _
    rw [List.getElem?_map, h]
    rfl
theorem atI_some {ns : List Int} {m : Int} (h1 : 1 ≤ m) (h2 : ¬ ((ns.length : Nat) : Int) < m) : ∃ x, atI ns (-m) = some x := by
  unfold atI ixN
  rw [if_neg (by omega), if_pos (by omega)]
  have hj : (-m + ((ns.length : Nat) : Int)).toNat < ns.length := by omega
  exact ⟨ns[(-m + ((ns.length : Nat) : Int)).toNat], List.getElem?_eq_getElem hj⟩
theorem ok_apart (T : D K mg) (TA : TabB base mg T.c_keeps_apart T.P_keeps_apart) {L : List Addr} (hL : T.P_keeps_apart ∈ L) : FnOk P w K mg base CX0 3 T.f_keeps_apart T.d_keeps_apart ["limits", "asks", "moment"] (spApart L) := by
  refine T.V_keeps_apart.ok sc_apart (fun vs H Q E h => ?_) (fun A outer s H vs Q E hr h => ?_)
  · obtain ⟨lv, av, t, ps, ns, rfl, _⟩ := h
    rfl
  · obtain ⟨lv, av, t, ps, ns, rfl, hl, h1, ha, hT, k⟩ := h
    refine ⟨_, pss_one (ps_ret (pe_allTF (xs := ["asks", "moment"]) (is := [1, 2]) (dom := domA) (pb := apartB) (k := 1) hr (by rfl) T.all TA rfl
      ⟨rfl, rfl, by decide +kernel, by rfl, by rfl, by rfl, by decide, ?_, .cons rfl (by rfl) (by decide +kernel) (.cons rfl (by rfl) (by decide +kernel) .nil)⟩ (pv 0)
      (fun en m h0 va vb q fd hsc C hma hmb ra rb hf hd => ?_) (fun _ => rfl))), ?_⟩
    · intro y hy e
      simp only [List.mem_cons, List.not_mem_nil, or_false] at hy
      rcases hy with rfl | rfl | rfl | rfl | rfl | rfl
      · cases e
      · cases e
      · cases e
      · exact ⟨_, rfl⟩
      · exact ⟨_, rfl⟩
      · cases e
    · obtain ⟨ns', t', p, rfl, rfl, hp⟩ := hd
      cases hf with
      | cons c1 i1 r1 z1 hf =>
        cases hf with
        | cons c2 i2 r2 z2 _ =>
          have e : apartB [.tuple (ns'.map PyData.int), .int t'] (inD p) = (decide ((((ns'.map PyData.int).length : Nat) : Int) < p.1) || (match atI ns' (-p.1) with
              | some x => decide (p.2 ≤ t' - x)
              | none => false)) := by
            show apI (numsD (ns'.map PyData.int)) t' p = _
            rw [nums_ints, List.length_map]
            rfl
          rw [e]
          have nasks : ∀ {pos : Pos}, QE P w base h0 1 en m (.Name "asks" pos) (.tuple (ns'.map PyData.int)) := fun {pos} => qe_free C (by rw [hsc]; decide +kernel) c1 i1 r1
          have nmom : ∀ {pos : Pos}, QE P w base h0 1 en m (.Name "moment" pos) (.int t') := fun {pos} => qe_free C (by rw [hsc]; decide +kernel) c2 i2 r2
          have nmost : ∀ {pos : Pos}, QE P w base h0 1 en m (.Name "most" pos) (.int p.1) := fun {pos} => qe_name C (by rw [hsc]; decide +kernel) hma ra
          have nwide : ∀ {pos : Pos}, QE P w base h0 1 en m (.Name "wide" pos) (.int p.2) := fun {pos} => qe_name C (by rw [hsc]; decide +kernel) hmb rb
          refine qe_or (qe_lt (qe_len C nasks (by rw [hsc]; decide +kernel) T.len z1) nmost) (fun hf => qe_one ?_)
          have hnl := of_decide_eq_false hf
          rw [List.length_map] at hnl
          obtain ⟨x, hx⟩ := atI_some hp hnl
          rw [hx]
          exact qe_ge (qe_sub nmom (qe_ixA nasks (qe_neg nmost) (atI_map hx) z1)) nwide
    · refine ⟨_, rfl, ps.map inD, [.tuple (ns.map PyData.int), .int t], hl.dq, .cons rfl ha.dq (.cons rfl (.int t) .nil), fun q hq => ?_, hT _ hL, fun H2 t2 => ?_⟩
      · obtain ⟨p, hp, rfl⟩ := List.mem_map.mp hq
        exact ⟨ns, t, p, rfl, rfl, h1 p hp⟩
      · have q := k H2 (.tab hT t2 hL)
        have e : (ps.map inD).all (apartB [.tuple (ns.map PyData.int), .int t]) = ps.all (apI ns t) := by
          rw [List.all_map]
          congr 1
          funext p
          show apI (numsD (ns.map PyData.int)) t p = apI ns t p
          rw [nums_ints]
        rw [e]
        exact q
end
end KP
set_option Elab.async false
set_option maxRecDepth 100000
set_option maxHeartbeats 4000000
set_option linter.all false
/-! Ours: quiet defs: whole numbers, bounds, rows, pairs of limits. -/
namespace KP
open PySem PySem.Spec PyProof.Rows L2 Gr GxR
def limD : PyData → Bool
  | .tuple [a, b] => betwD a 1 6 && betwD b 1 12
  | _ => false
theorem QF.mono {P : Program} {w : World} {K : PySem.W.Frag} {mg : Str → Option Value} {base : Heap} {j k : Nat} {f : Addr} {fd : FuncData} {ps : List Str} {pre : List PyData → PyData → Prop} (F : QF P w K mg base j f fd ps pre) (h : j ≤ k) : QF P w K mg base k f fd ps pre :=
  ⟨F.len, fun B z args us ds d hr => F.run B z args us ds d (hr.mono h)⟩
section
variable {P : Program} {w : World} {K : PySem.W.Frag} {mg : Str → Option Value} {base : Heap}
theorem sc_whole : FnScope ["value"] ["value"] (defScope s_is_whole) := ⟨rfl, rfl, rfl, by decide +kernel, rfl, by decide +kernel, by decide +kernel⟩
theorem qf_whole (M : Mod K mg base) (T : D K mg) : QF P w K mg base 1 T.f_is_whole T.d_is_whole ["value"] (fun ds d => ∃ x, ds = [x] ∧ d = .bool (wholeD x)) := by
  refine qf_of M T.U_is_whole sc_whole (by decide +kernel) (by with_unfolding_all rfl) (fun ds d h => ?_) (fun env m h0 us ds d hsc C hm hv h => ?_)
  · obtain ⟨x, rfl, _⟩ := h
    rfl
  · obtain ⟨x, rfl, rfl⟩ := h
    match us, hv with
    | [u], .cons r .nil =>
      have n0 := hm 0 "value" u rfl rfl
      have e : (x.isInt && !x.isBool) = wholeD x := by cases x <;> rfl
      rw [← e]
      exact qe_and (qe_isi C (qe_name C (by rw [hsc]; decide +kernel) n0 r) (by rw [hsc]; decide +kernel) T.isinstance (by rw [hsc]; decide +kernel) T.int (by decide +kernel) (by decide) (by decide) (fun r h => PySem.W.isinstance_int_data r h))
        (fun _ => qe_one (qe_not (qe_isi C (qe_name C (by rw [hsc]; decide +kernel) n0 r) (by rw [hsc]; decide +kernel) T.isinstance (by rw [hsc]; decide +kernel) T.bool (by decide +kernel) (by decide) (by decide) (fun r h => PySem.W.isinstance_bool_data r h))))
theorem sc_betw : FnScope ["value", "low", "high"] ["value", "low", "high"] (defScope s_is_between) := ⟨rfl, rfl, rfl, by decide +kernel, rfl, by decide +kernel, by decide +kernel⟩
theorem qf_betw (M : Mod K mg base) (T : D K mg) : QF P w K mg base 2 T.f_is_between T.d_is_between ["value", "low", "high"] (fun ds d => ∃ x lo hi, ds = [x, .int lo, .int hi] ∧ d = .bool (betwD x lo hi)) := by
  refine qf_of M T.U_is_between sc_betw (by decide +kernel) (by with_unfolding_all rfl) (fun ds d h => ?_) (fun env m h0 us ds d hsc C hm hv h => ?_)
  · obtain ⟨x, lo, hi, rfl, _⟩ := h
    rfl
  · obtain ⟨x, lo, hi, rfl, rfl⟩ := h
    match us, hv with
    | [u, a, b], .cons r (.cons ra (.cons rb .nil)) =>
      have n0 := hm 0 "value" u rfl rfl
      have n1 := hm 1 "low" a rfl rfl
      have n2 := hm 2 "high" b rfl rfl
      have e : (wholeD x && betwD x lo hi) = betwD x lo hi := by cases x <;> rfl
      rw [← e]
      refine qe_and (qe_call C (qf_whole M T) (by rw [hsc]; decide +kernel) T.g_is_whole T.U_is_whole.kp T.b_is_whole (qes_cons (qe_name C (by rw [hsc]; decide +kernel) n0 r) qes_nil) ⟨x, rfl, rfl⟩) (fun hw => qe_one ?_)
      cases x with
      | int n => exact qe_chain (qe_name C (by rw [hsc]; decide +kernel) n1 ra) (qe_name C (by rw [hsc]; decide +kernel) n0 r) (qe_name C (by rw [hsc]; decide +kernel) n2 rb) (f := fun i j => decide (i ≤ j)) (g := fun i j => decide (i ≤ j)) (fun q => le_int q) (fun q => le_int q)
      | _ => cases hw
theorem sc_row : FnScope ["value", "low", "high"] ["value", "low", "high"] (defScope s_is_tuple) := ⟨rfl, rfl, rfl, by decide +kernel, rfl, by decide +kernel, by decide +kernel⟩
theorem qf_row (M : Mod K mg base) (T : D K mg) : QF P w K mg base 1 T.f_is_tuple T.d_is_tuple ["value", "low", "high"] (fun ds d => ∃ x lo hi, ds = [x, .int lo, .int hi] ∧ szD x ∧ d = .bool (rowD x lo hi)) := by
  refine qf_of M T.U_is_tuple sc_row (by decide +kernel) (by with_unfolding_all rfl) (fun ds d h => ?_) (fun env m h0 us ds d hsc C hm hv h => ?_)
  · obtain ⟨x, lo, hi, rfl, _⟩ := h
    rfl
  · obtain ⟨x, lo, hi, rfl, sz, rfl⟩ := h
    match us, hv with
    | [u, a, b], .cons r (.cons ra (.cons rb .nil)) =>
      have n0 := hm 0 "value" u rfl rfl
      have n1 := hm 1 "low" a rfl rfl
      have n2 := hm 2 "high" b rfl rfl
      have e : (x.isTuple && rowD x lo hi) = rowD x lo hi := by cases x <;> rfl
      rw [← e]
      refine qe_and (qe_isi C (qe_name C (by rw [hsc]; decide +kernel) n0 r) (by rw [hsc]; decide +kernel) T.isinstance (by rw [hsc]; decide +kernel) T.tuple (by decide +kernel) (by decide) (by decide) (fun r h => PySem.W.isinstance_tuple_data r h)) (fun hw => qe_one ?_)
      cases x with
      | tuple es => exact qe_chain (qe_name C (by rw [hsc]; decide +kernel) n1 ra) (qe_len C (qe_name C (by rw [hsc]; decide +kernel) n0 r) (by rw [hsc]; decide +kernel) T.len sz) (qe_name C (by rw [hsc]; decide +kernel) n2 rb) (f := fun i j => decide (i ≤ j)) (g := fun i j => decide (i ≤ j)) (fun q => le_int q) (fun q => le_int q)
      | _ => cases hw
theorem lim_row (x : PyData) : (rowD x 2 2 && limD x) = limD x := by
  cases x with
  | tuple l =>
    match l with
    | [] => rfl
    | [_] => rfl
    | [a, b] => show (true && _) = _; rfl
    | _ :: _ :: _ :: _ => show (_ && false) = false; rw [Bool.and_false]
  | _ => rfl
theorem row2 {x : PyData} (h : rowD x 2 2 = true) : ∃ a b, x = .tuple [a, b] := by
  cases x with
  | tuple l =>
    have h : (decide (2 ≤ ((l.length : Nat) : Int)) && decide (((l.length : Nat) : Int) ≤ 2)) = true := h
    simp only [Bool.and_eq_true, decide_eq_true_eq] at h
    match l, h with
    | [], h => simp at h
    | [_], h => simp at h
    | [a, b], _ => exact ⟨a, b, rfl⟩
    | _ :: _ :: _ :: _, h => simp at h; omega
  | _ => cases h
theorem sc_limit : FnScope ["value"] ["value"] (defScope s_is_limit) := ⟨rfl, rfl, rfl, by decide +kernel, rfl, by decide +kernel, by decide +kernel⟩
theorem qf_limit (M : Mod K mg base) (T : D K mg) : QF P w K mg base 3 T.f_is_limit T.d_is_limit ["value"] (fun ds d => ∃ x, ds = [x] ∧ szD x ∧ d = .bool (limD x)) := by
  refine qf_of M T.U_is_limit sc_limit (by decide +kernel) (by with_unfolding_all rfl) (fun ds d h => ?_) (fun env m h0 us ds d hsc C hm hv h => ?_)
  · obtain ⟨x, rfl, _⟩ := h
    rfl
  · obtain ⟨x, rfl, sz, rfl⟩ := h
    match us, hv with
    | [u], .cons r .nil =>
      have n0 := hm 0 "value" u rfl rfl
      have mz : 5000 ≤ sizeLine := by decide
      rw [← lim_row x]
      refine qe_and (qe_call C (QF.mono (qf_row M T) (by decide)) (by rw [hsc]; decide +kernel) T.g_is_tuple T.U_is_tuple.kp T.b_is_tuple (qes_cons (qe_name C (by rw [hsc]; decide +kernel) n0 r) (qes_cons qe_int (qes_cons qe_int qes_nil))) ⟨x, _, _, rfl, sz, rfl⟩) (fun hw => ?_)
      obtain ⟨a, b, rfl⟩ := row2 hw
      exact qe_and (qe_call C (qf_betw M T) (by rw [hsc]; decide +kernel) T.g_is_between T.U_is_between.kp T.b_is_between (qes_cons (qe_ix (ds := [a, b]) (i := 0) (qe_name C (by rw [hsc]; decide +kernel) n0 r) rfl (by show 2 ≤ sizeLine; omega)) (qes_cons qe_int (qes_cons (qe_gint C (by rw [hsc]; decide +kernel) T.g_MOST_ASKS) qes_nil))) ⟨a, _, _, rfl, rfl⟩)
        (fun _ => qe_one (qe_call C (qf_betw M T) (by rw [hsc]; decide +kernel) T.g_is_between T.U_is_between.kp T.b_is_between (qes_cons (qe_ix (ds := [a, b]) (i := 1) (qe_name C (by rw [hsc]; decide +kernel) n0 r) rfl (by show 2 ≤ sizeLine; omega)) (qes_cons qe_int (qes_cons (qe_gint C (by rw [hsc]; decide +kernel) T.g_WIDEST) qes_nil))) ⟨b, _, _, rfl, rfl⟩))
end
end KP
set_option Elab.async false
set_option maxRecDepth 100000
set_option maxHeartbeats 4000000
set_option linter.all false
/-! Ours: limits, hours, rules of values of any kind. -/
namespace KP
open PySem PySem.Spec PyProof.Rows L2 Gr GxR
theorem gens_mk {env : Env} {scope : Scope} {x : Str} (h1 : scope.kind = .function) (h2 : scope.isCoroutine = false) (h3 : ∀ y ∈ scope.names, y.2 ≠ .cell) (h4 : scope.names.lookup (".0" : Str) = some NameKind.local) (h5 : scope.names.lookup x = some .local)
    (h6 : ∀ y ∈ scope.names, y.2 ≠ .free) : GenS env scope x := ⟨h1, h2, h3, h4, h5, fun y hy e => absurd e (h6 y hy)⟩
structure Tabs {K : PySem.W.Frag} {mg : Str → Option Value} (base : Heap) (T : D K mg) : Prop where
  a : TabB base mg T.c_are_limits T.P_are_limits
  b : TabB base mg T.c_are_hours T.P_are_hours
  c : TabB base mg T.c_keeps_apart T.P_keeps_apart
  d : TabB base mg T.c_is_row_of T.P_is_row_of
  e : TabB base mg T.c_dealt T.P_dealt
def tabs {K : PySem.W.Frag} {mg : Str → Option Value} (T : D K mg) : List Addr := [T.P_are_limits, T.P_are_hours, T.P_keeps_apart, T.P_is_row_of, T.P_dealt]
def elems : PyData → List PyData
  | .tuple l => l
  | _ => []
def limsD (d : PyData) : Bool := rowD d 0 4 && (elems d).all limD
def hoursD (d : PyData) : Bool := rowD d 1 12 && ((elems d).all (fun x => betwD x 0 1) && hasOne 1 (elems d))
def rulesD : PyData → Bool
  | .tuple [a, b] => limsD a && hoursD b
  | _ => false
def anyD : PyData → Prop := fun _ => True
section
variable {P : Program} {w : World} {K : PySem.W.Frag} {mg : Str → Option Value} {base : Heap}
theorem ok_whole (T : D K mg) : FnOk P w K mg base CX0 1 T.f_is_whole T.d_is_whole ["value"] spWhole := by
  refine T.U_is_whole.ok sc_whole (fun vs H Q E h => ?_) (fun cdv A outer s H vs Q E hr h => ?_)
  · obtain ⟨v, d, rfl, _⟩ := h
    rfl
  · obtain ⟨v, d, rfl, hd, k⟩ := h
    have nd := sc_whole.nd
    refine ⟨_, pss_one (ps_ret (pe_and (pe_callB call_isi (by rfl) T.isinstance (by decide +kernel) (pa_cons (pv 0) (pa_cons (pe_bltn (v := .ty "int") (by rfl) T.int (by decide +kernel) rfl) pa_nil))) (pe_one (pe_not (pe_callB call_isi (by rfl) T.isinstance (by decide +kernel) (pa_cons (pv 0) (pa_cons (pe_bltn (v := .ty "bool") (by rfl) T.bool (by decide +kernel) rfl) pa_nil))))))), ?_⟩
    refine and_pure (isIntD d) (!isBoolD d) (fun Q' q' => ⟨_, rfl, _, _, _, _, _, rfl, .ty _, hd.ty, kInt d, q'⟩) (fun _ Q' q' => ⟨_, rfl, _, _, _, _, _, rfl, .ty _, hd.ty, kBool d, ?_⟩) ?_
    · exact ⟨_, rfl, q'⟩
    · have e : (isIntD d && !isBoolD d) = wholeD d := by cases d <;> rfl
      rw [e]
      exact k
theorem ok_betw (T : D K mg) : FnOk P w K mg base CX0 2 T.f_is_between T.d_is_between ["value", "low", "high"] spBetw := by
  refine T.U_is_between.ok sc_betw (fun vs H Q E h => ?_) (fun cdv A outer s H vs Q E hr h => ?_)
  · obtain ⟨v, d, lo, hi, rfl, _⟩ := h
    rfl
  · obtain ⟨v, d, lo, hi, rfl, hd, k⟩ := h
    refine ⟨_, pss_one (ps_ret (pe_and (pe_call (ok_whole T) hr rfl T.g_is_whole T.U_is_whole.kp T.b_is_whole .nil pass0 (pa_cons (pv 0) pa_nil)) (pe_one (pe_chain op_le op_le (pv 1) (pv 0) (pv 2))))), ?_⟩
    refine and_pure (wholeD d) (betwD d lo hi) (fun Q' q' => ⟨_, rfl, _, _, rfl, hd, q'⟩) (fun hw Q' q' => ?_) ?_
    · cases hd with
      | int n =>
        refine ⟨_, rfl, _, rfl, _, _, rfl, rfl, _, rfl, ite2 (fun h1 => ⟨_, rfl, _, _, rfl, rfl, ?_⟩) (fun h1 => ?_)⟩
        · have e : betwD (.int n) lo hi = decide (n ≤ hi) := by
            show (decide (lo ≤ n) && decide (n ≤ hi)) = _
            rw [h1, Bool.true_and]
          rw [e] at q'
          exact q'
        · have e : betwD (.int n) lo hi = false := by
            show (decide (lo ≤ n) && decide (n ≤ hi)) = _
            rw [Bool.eq_false_iff.mpr h1, Bool.false_and]
          rw [e] at q'
          exact q'
      | _ => cases hw
    · have e : (wholeD d && betwD d lo hi) = betwD d lo hi := by cases d <;> rfl
      rw [e]
      exact k
theorem ok_row (T : D K mg) : FnOk P w K mg base CX0 1 T.f_is_tuple T.d_is_tuple ["value", "low", "high"] spRow := by
  refine T.U_is_tuple.ok sc_row (fun vs H Q E h => ?_) (fun cdv A outer s H vs Q E hr h => ?_)
  · obtain ⟨v, d, lo, hi, rfl, _⟩ := h
    rfl
  · obtain ⟨v, d, lo, hi, rfl, hd, k⟩ := h
    refine ⟨_, pss_one (ps_ret (pe_and (pe_callB call_isi (by rfl) T.isinstance (by decide +kernel) (pa_cons (pv 0) (pa_cons (pe_bltn (v := .ty "tuple") (by rfl) T.tuple (by decide +kernel) rfl) pa_nil))) (pe_one (pe_chain op_le op_le (pv 1) (pe_callB call_len_seq (by rfl) T.len PySem.boot_len (pa_cons (pv 0) pa_nil)) (pv 2))))), ?_⟩
    refine and_pure (isTupD d) (rowD d lo hi) (fun Q' q' => ⟨_, rfl, _, _, _, _, _, rfl, .ty _, hd.ty, kTup d, q'⟩) (fun hw Q' q' => ?_) ?_
    · cases hd with
      | tup e a =>
        rename_i ad xs ds
        have el := a.len
        refine ⟨_, rfl, _, rfl, ad, _, rfl, .inr (SqT.of e), _, _, rfl, rfl, _, rfl, ite2 (fun h1 => ⟨_, rfl, _, _, rfl, rfl, ?_⟩) (fun h1 => ?_)⟩
        · have e : rowD (.tuple ds) lo hi = decide (((xs.length : Nat) : Int) ≤ hi) := by
            show (decide (lo ≤ (ds.length : Nat)) && decide (((ds.length : Nat) : Int) ≤ hi)) = _
            rw [← el, h1, Bool.true_and]
          rw [e] at q'
          exact q'
        · have e : rowD (.tuple ds) lo hi = false := by
            show (decide (lo ≤ (ds.length : Nat)) && decide (((ds.length : Nat) : Int) ≤ hi)) = _
            rw [← el, Bool.eq_false_iff.mpr h1, Bool.false_and]
          rw [e] at q'
          exact q'
      | _ => cases hw
    · have e : (isTupD d && rowD d lo hi) = rowD d lo hi := by cases d <;> rfl
      rw [e]
      exact k
end
theorem OdAll.ints {H : Hp} : ∀ {xs : List V} {ds : List PyData}, OdAll H xs ds → (∀ d ∈ ds, wholeD d = true) → ∃ ns : List Int, xs = ns.map V.int ∧ ds = ns.map PyData.int
  | _, _, .nil, _ => ⟨[], rfl, rfl⟩
  | _, _, .cons a b, h => by
    obtain ⟨ns, e1, e2⟩ := OdAll.ints b fun d hd => h d (List.mem_cons_of_mem _ hd)
    cases a with
    | int i => exact ⟨i :: ns, by rw [e1]; rfl, by rw [e2]; rfl⟩
    | non => cases h _ List.mem_cons_self
    | bl _ => cases h _ List.mem_cons_self
    | str _ => cases h _ List.mem_cons_self
    | lst _ _ => cases h _ List.mem_cons_self
    | tup _ _ => cases h _ List.mem_cons_self
    | dic _ _ _ => cases h _ List.mem_cons_self
theorem ints_flat (ns : List Int) : (ns.map V.int).all flatV = true := by
  induction ns with
  | nil => rfl
  | cons n l ih => rw [List.map_cons, List.all_cons, ih]; rfl
theorem ints_in (i : Int) (ns : List Int) : inV (.int i) (ns.map V.int) = hasOne i (ns.map PyData.int) := by
  induction ns with
  | nil => rfl
  | cons n l ih =>
    unfold inV at ih ⊢
    rw [List.map_cons, List.any_cons, ih]
    rfl
theorem betw_whole {d : PyData} {lo hi : Int} (h : betwD d lo hi = true) : wholeD d = true := by
  cases d <;> first | rfl | cases h
theorem row_tup {d : PyData} {lo hi : Int} (h : rowD d lo hi = true) : ∃ ds, d = .tuple ds ∧ lo ≤ (ds.length : Nat) ∧ ((ds.length : Nat) : Int) ≤ hi := by
  cases d with
  | tuple ds =>
    have h : (decide (lo ≤ (ds.length : Nat)) && decide (((ds.length : Nat) : Int) ≤ hi)) = true := h
    rw [Bool.and_eq_true, decide_eq_true_eq, decide_eq_true_eq] at h
    exact ⟨ds, rfl, h⟩
  | _ => cases h
theorem od_tup {H : Hp} {v : V} {ds : List PyData} (h : Od H v (.tuple ds)) : ∃ a xs, v = .ref a ∧ H a = some (.tup xs) ∧ OdAll H xs ds := by
  cases h with
  | tup e o => exact ⟨_, _, rfl, e, o⟩
theorem OdAll.get {H : Hp} : ∀ {vs : List V} {ds : List PyData}, OdAll H vs ds → ∀ {i : Nat} {d : PyData}, ds[i]? = some d → ∃ v, vs[i]? = some v ∧ Od H v d
  | _, _, .nil, i, d, e => by cases e
  | _, _, .cons a b, 0, d, e => by cases e; exact ⟨_, rfl, a⟩
  | _, _, .cons a b, i + 1, d, e => OdAll.get b e
section
variable {P : Program} {w : World} {K : PySem.W.Frag} {mg : Str → Option Value} {base : Heap}
theorem sc_lims : FnScope ["value"] ["value"] (defScope s_are_limits) := ⟨rfl, rfl, rfl, by decide +kernel, rfl, by decide +kernel, by decide +kernel⟩
theorem ok_lims (T : D K mg) (TB : Tabs base T) : FnOk P w K mg base CX0 5 T.f_are_limits T.d_are_limits ["value"] (spD (tabs T) anyD limsD) := by
  refine T.V_are_limits.ok sc_lims (fun vs H Q E h => ?_) (fun A outer s H vs Q E hr h => ?_)
  · obtain ⟨v, d, rfl, _⟩ := h
    rfl
  · obtain ⟨v, d, rfl, hd, _, hT, k⟩ := h
    refine ⟨_, pss_one (ps_ret (pe_and (pe_call (ok_row T) (hr.mono (by decide)) rfl T.g_is_tuple T.U_is_tuple.kp T.b_is_tuple .nil pass0 (pa_cons (pv 0) (pa_cons pe_int (pa_cons (pe_glob (v := .int 4) rfl T.g_MOST_PAIRS ⟨_, rfl⟩) pa_nil))))
      (pe_one (pe_allD (pb := limD) (k := 3) hr (by rfl) T.all TB.a rfl (gens_mk rfl rfl (by decide +kernel) (by rfl) (by rfl) (by decide +kernel)) (pv 0)
        (fun en m h0 v d hsc C hm hv sz => qe_call C (qf_limit C.mod T) (by rw [hsc]; decide +kernel) T.g_is_limit T.U_is_limit.kp T.b_is_limit (qes_cons (qe_name C (by rw [hsc]; decide +kernel) hm hv) qes_nil) ⟨d, rfl, sz, rfl⟩) (fun _ => rfl))))), ?_⟩
    refine ⟨_, rfl, v, d, _, _, rfl, hd, _, rfl, ?_⟩
    cases hq : rowD d 0 4 with
    | false =>
      have q := k H (.refl hT)
      have e : limsD d = false := by unfold limsD; rw [hq]; rfl
      rw [e] at q
      exact iteF q
    | true =>
      obtain ⟨ds, rfl, _⟩ := row_tup hq
      refine iteT ⟨_, rfl, ds, hd.dq, hT _ (by simp [tabs]), fun H2 t2 => ?_⟩
      have q := k H2 (.tab hT t2 (by simp [tabs]))
      have e : limsD (.tuple ds) = ds.all limD := by unfold limsD; rw [hq]; rfl
      rw [e] at q
      exact q
theorem sc_hours : FnScope ["value"] ["value"] (defScope s_are_hours) := ⟨rfl, rfl, rfl, by decide +kernel, rfl, by decide +kernel, by decide +kernel⟩
theorem ok_hours (T : D K mg) (TB : Tabs base T) : FnOk P w K mg base CX0 5 T.f_are_hours T.d_are_hours ["value"] (spD (tabs T) anyD hoursD) := by
  refine T.V_are_hours.ok sc_hours (fun vs H Q E h => ?_) (fun A outer s H vs Q E hr h => ?_)
  · obtain ⟨v, d, rfl, _⟩ := h
    rfl
  · obtain ⟨v, d, rfl, hd, _, hT, k⟩ := h
    refine ⟨_, pss_one (ps_ret (pe_and (pe_call (ok_row T) (hr.mono (by decide)) rfl T.g_is_tuple T.U_is_tuple.kp T.b_is_tuple .nil pass0 (pa_cons (pv 0) (pa_cons pe_int (pa_cons (pe_glob (v := .int 12) rfl T.g_WIDEST ⟨_, rfl⟩) pa_nil))))
      (pe_and (pe_allD (pb := fun x => betwD x 0 1) (k := 3) hr (by rfl) T.all TB.b rfl (gens_mk rfl rfl (by decide +kernel) (by rfl) (by rfl) (by decide +kernel)) (pv 0)
        (fun en m h0 v d hsc C hm hv sz => qe_call C (QF.mono (qf_betw C.mod T) (by decide)) (by rw [hsc]; decide +kernel) T.g_is_between T.U_is_between.kp T.b_is_between (qes_cons (qe_name C (by rw [hsc]; decide +kernel) hm hv) (qes_cons qe_int (qes_cons qe_int qes_nil))) ⟨d, _, _, rfl, rfl⟩) (fun _ => rfl))
        (pe_one (pe_cmpR op_in_seq pe_int (pv 0) rfl))))), ?_⟩
    refine ⟨_, rfl, v, d, _, _, rfl, hd, _, rfl, ?_⟩
    cases hq : rowD d 1 12 with
    | false =>
      have q := k H (.refl hT)
      have e : hoursD d = false := by unfold hoursD; rw [hq]; rfl
      rw [e] at q
      exact iteF q
    | true =>
      obtain ⟨ds, rfl, _⟩ := row_tup hq
      have e : hoursD (.tuple ds) = (ds.all (fun x => betwD x 0 1) && hasOne 1 ds) := by unfold hoursD; rw [hq]; rfl
      refine iteT ⟨_, rfl, ds, hd.dq, hT _ (by simp [tabs]), fun H2 t2 => ⟨_, rfl, ?_⟩⟩
      have u2 : UpL (tabs T) H H2 := .tab hT t2 (by simp [tabs])
      have q := k H2 u2
      rw [e] at q
      cases ha : ds.all (fun x => betwD x 0 1) with
      | false =>
        rw [ha] at q
        exact iteF q
      | true =>
        rw [ha, Bool.true_and] at q
        have hd2 : Od H2 v (.tuple ds) := hd.stay (u2.stay hT)
        obtain ⟨a, xs, rfl, ea, oa⟩ := od_tup hd2
        obtain ⟨ns, rfl, rfl⟩ := OdAll.ints oa fun d hd => betw_whole (List.all_eq_true.mp ha d hd)
        rw [← ints_in] at q
        exact iteT ⟨_, rfl, a, _, rfl, .inr (SqT.of ea), rfl, ints_flat ns, q⟩
theorem sc_rules : FnScope ["value"] ["value"] (defScope s_are_rules) := ⟨rfl, rfl, rfl, by decide +kernel, rfl, by decide +kernel, by decide +kernel⟩
theorem rules_row (x : PyData) (h : rowD x 2 2 = false) : rulesD x = false := by
  cases x with
  | tuple l =>
    match l, h with
    | [], _ => rfl
    | [_], _ => rfl
    | [a, b], h => cases h
    | _ :: _ :: _ :: _, _ => rfl
  | _ => rfl
theorem ok_rules (T : D K mg) (TB : Tabs base T) : FnOk P w K mg base CX0 6 T.f_are_rules T.d_are_rules ["value"] (spD (tabs T) anyD rulesD) := by
  refine T.U_are_rules.ok sc_rules (fun vs H Q E h => ?_) (fun cdv A outer s H vs Q E hr h => ?_)
  · obtain ⟨v, d, rfl, _⟩ := h
    rfl
  · obtain ⟨v, d, rfl, hd, _, hT, k⟩ := h
    refine ⟨_, pss_one (ps_ret (pe_and (pe_call (ok_row T) (hr.mono (by decide)) rfl T.g_is_tuple T.U_is_tuple.kp T.b_is_tuple .nil pass0 (pa_cons (pv 0) (pa_cons pe_int (pa_cons pe_int pa_nil))))
      (pe_and (pe_call (ok_lims T TB) hr rfl T.g_are_limits T.U_are_limits.kp T.b_are_limits .nil pass0 (pa_cons (pe_ix ix_tup (pv 0) pe_int (fun _ _ => rfl)) pa_nil))
        (pe_one (pe_call (ok_hours T TB) hr rfl T.g_are_hours T.U_are_hours.kp T.b_are_hours .nil pass0 (pa_cons (pe_ix ix_tup (pv 0) pe_int (fun _ _ => rfl)) pa_nil)))))), ?_⟩
    refine ⟨_, rfl, v, d, _, _, rfl, hd, _, rfl, ?_⟩
    cases hq : rowD d 2 2 with
    | false =>
      have q := k H (.refl hT)
      rw [rules_row d hq] at q
      exact iteF q
    | true =>
      obtain ⟨x, y, rfl⟩ := row2 hq
      obtain ⟨a, xs, rfl, ea, oa⟩ := od_tup hd
      match xs, oa with
      | [vx, vy], .cons ox (.cons oy .nil) =>
        refine iteT ⟨_, rfl, a, [vx, vy], 0, vx, rfl, rfl, SqT.of ea, rfl, vx, x, rfl, ox, trivial, hT, fun H2 u2 => ⟨_, rfl, ?_⟩⟩
        have e : rulesD (.tuple [x, y]) = (limsD x && hoursD y) := rfl
        have s2 := u2.stay hT
        cases hx : limsD x with
        | false =>
          have q := k H2 u2
          rw [e, hx] at q
          exact iteF q
        | true =>
          refine iteT ⟨_, rfl, a, [vx, vy], 1, vy, rfl, rfl, SqT.of (s2 _ _ ea (fun _ z => nomatch z)), rfl, vy, y, rfl, oy.stay s2, trivial, u2.1, fun H3 u3 => ?_⟩
          have q := k H3 (u2.trans u3)
          rw [e, hx, Bool.true_and] at q
          exact q
/-- limits, or an error that never comes -/
def spChk (ps : List Addr) : Sp := fun vs H Q _ => ∃ v d, vs = [v] ∧ Od H v d ∧ limsD d = true ∧ Tb ps H ∧ ∀ H', UpL ps H H' → Q .non H'
end
end KP
set_option Elab.async false
set_option maxRecDepth 100000
set_option maxHeartbeats 4000000
set_option linter.all false
/-! Ours: open hours; the first wrong ask. -/
namespace KP
open PySem PySem.Spec PyProof.Rows L2 Gr GxR
def openI (hs : List Int) (t : Int) : Bool := hs[(t % ((hs.length : Nat) : Int)).toNat]? == some 1
def spOpens : Sp := fun vs H Q _ => ∃ (hv : V) (hs : List Int) (t : Int), vs = [hv, .int t] ∧ Od H hv (.tuple (hs.map PyData.int)) ∧ 0 < hs.length ∧ Q (.bl (openI hs t)) H
theorem od_nums {H : Hp} {xs : List V} {ns : List Int} (o : OdAll H xs (ns.map PyData.int)) : xs = ns.map V.int := by
  induction ns generalizing xs with
  | nil => cases o; rfl
  | cons n l ih =>
    cases o with
    | cons a b =>
      cases a
      rw [ih b]
      rfl
section
variable {P : Program} {w : World} {K : PySem.W.Frag} {mg : Str → Option Value} {base : Heap}
theorem sc_opens : FnScope ["hours", "moment"] ["hours", "moment"] (defScope s_opens) := ⟨rfl, rfl, rfl, by decide +kernel, rfl, by decide +kernel, by decide +kernel⟩
theorem ok_opens (T : D K mg) : FnOk P w K mg base CX0 1 T.f_opens T.d_opens ["hours", "moment"] spOpens := by
  refine T.U_opens.ok sc_opens (fun vs H Q E h => ?_) (fun cdv A outer s H vs Q E hr h => ?_)
  · obtain ⟨hv, hs, t, rfl, _⟩ := h
    rfl
  · obtain ⟨hv, hs, t, rfl, ho, h0, k⟩ := h
    have nd := sc_opens.nd
    obtain ⟨a, xs, rfl, ea, oa⟩ := od_tup ho
    have exs := od_nums oa
    subst exs
    refine ⟨_, pss_one (ps_ret (pe_cmpR op_eq (pe_ix ix_tup (pv 0) (pe_op op_mod (pv 1) (pe_callB call_len_seq (by rfl) T.len PySem.boot_len (pa_cons (pv 0) pa_nil))) (fun _ _ => rfl)) pe_int (nomark _))), ?_⟩
    have hb := Int.emod_nonneg t (b := ((hs.length : Nat) : Int)) (by omega)
    have hc := Int.emod_lt_of_pos t (b := ((hs.length : Nat) : Int)) (by omega)
    have hj : (t % ((hs.length : Nat) : Int)).toNat < hs.length := by omega
    refine ⟨_, rfl, _, rfl, _, rfl, a, _, rfl, .inr (SqT.of ea), ?_⟩
    have ex : atI (hs.map V.int) (t % (((hs.map V.int).length : Nat) : Int)) = some (V.int hs[(t % ((hs.length : Nat) : Int)).toNat]) := by
      rw [List.length_map]
      obtain ⟨j, ej⟩ : ∃ j : Nat, t % ((hs.length : Nat) : Int) = (j : Int) := ⟨(t % ((hs.length : Nat) : Int)).toNat, by omega⟩
      have hj2 : j < hs.length := by omega
      refine (congrArg (atI (hs.map V.int)) ej).trans ((atI_nat (v := V.int hs[j]) ?_).trans ?_)
      · rw [List.getElem?_map, List.getElem?_eq_getElem hj2]
        rfl
      · congr 2
        congr 1
        omega
    refine ⟨_, _, rfl, rfl, by rw [List.length_map]; omega, a, _, _, _, rfl, rfl, SqT.of ea, ex, rfl, ?_⟩
    have e : decide (V.int hs[(t % ((hs.length : Nat) : Int)).toNat] = V.int 1) = openI hs t := by
      unfold openI
      rw [List.getElem?_eq_getElem hj, Bool.eq_iff_iff]
      simp
    rw [e]
    exact k
/-- a tuple of whole numbers -/
def IsI (H : Hp) (v : V) (ns : List Int) : Prop := ∃ a, v = .ref a ∧ H a = some (.tup (ns.map V.int))
theorem ints_od {H : Hp} : ∀ ns : List Int, OdAll H (ns.map V.int) (ns.map PyData.int)
  | [] => .nil
  | n :: ns => .cons (.int n) (ints_od ns)
theorem IsI.od {H : Hp} {v : V} {ns : List Int} (h : IsI H v ns) : Od H v (.tuple (ns.map PyData.int)) := by
  obtain ⟨a, rfl, o⟩ := h
  exact .tup o (ints_od ns)
theorem od_I {H : Hp} {v : V} {ns : List Int} (h : Od H v (.tuple (ns.map PyData.int))) : IsI H v ns := by
  obtain ⟨a, xs, rfl, e, o⟩ := od_tup h
  exact ⟨a, rfl, by rw [e, od_nums o]⟩
def politeAt (ps : List (Int × Int)) (hs ns : List Int) (i : Nat) : Bool := openI hs (ns.getD i 0) && ps.all (apI (ns.take i) (ns.getD i 0))
def firstI (ps : List (Int × Int)) (hs ns : List Int) : Option Nat := (List.range ns.length).find? (fun i => !politeAt ps hs ns i)
def optV : Option Nat → V
  | some i => .int (i : Nat)
  | none => .non
def rulesP (ps : List (Int × Int)) (hs : List Int) : PyData := .tuple [.tuple ((ps.map inD).map tw), .tuple (hs.map PyData.int)]
theorem first_at {ps : List (Int × Int)} {hs ns : List Int} {i : Nat} (hi : i < ns.length) (h : ∀ j, j < i → politeAt ps hs ns j = true) (hb : politeAt ps hs ns i = false) : firstI ps hs ns = some i := by
  unfold firstI
  rw [List.find?_range_eq_some]
  refine ⟨by rw [hb]; rfl, List.mem_range.mpr hi, fun j hj => by rw [h j hj]; rfl⟩
theorem first_none {ps : List (Int × Int)} {hs ns : List Int} (h : ∀ j, j < ns.length → politeAt ps hs ns j = true) : firstI ps hs ns = none := by
  unfold firstI
  rw [List.find?_eq_none]
  intro j hj
  rw [h j (List.mem_range.mp hj)]
  decide
theorem sc_first : FnScope ["rules", "asks", "limits", "hours", "index", "moment"] ["rules", "asks"] (defScope s_first_wrong_ask) := ⟨rfl, rfl, rfl, by decide +kernel, rfl, by decide +kernel, by decide +kernel⟩
end
end KP
set_option Elab.async false
set_option maxRecDepth 100000
set_option maxHeartbeats 4000000
set_option linter.all false
/-! Ours: the checks of right arguments; the functions. -/
namespace KP
open PySem PySem.Spec PyProof.Rows L2 Gr GxR
theorem gn {i : Nat} {v : V} {σ : L2.St} {H : Hp} {Q : L2.St → Hp → Prop} (h : Q (σ.set i (some v)) H) : gName i v σ H Q := h
theorem next_of {E : Ends} {σ : L2.St} {H : Hp} (h : E.nx σ H) : tNext E σ H := h
def spCk (L : List Addr) (f : PyData → Bool) : Sp := fun vs H Q _ => ∃ v d, vs = [v] ∧ Od H v d ∧ f d = true ∧ Tb L H ∧ ∀ H', UpL L H H' → Q .non H'
def spFrom : Sp := fun vs H Q _ => ∃ t lo : Int, vs = [.int t, .int lo] ∧ lo ≤ t ∧ Q .non H
def asc : Int → List Int → Prop
  | _, [] => True
  | m, n :: l => m ≤ n ∧ asc n l
section
variable {P : Program} {w : World} {K : PySem.W.Frag} {mg : Str → Option Value} {base : Heap}
theorem sc_from : FnScope ["given", "low"] ["given", "low"] (defScope s_check_from) := ⟨rfl, rfl, rfl, by decide +kernel, rfl, by decide +kernel, by decide +kernel⟩
theorem ok_from (T : D K mg) : FnOk P w K mg base CX0 2 T.f_check_from T.d_check_from ["given", "low"] spFrom := by
  refine T.U_check_from.ok sc_from (fun vs H Q E h => ?_) (fun cdv A outer s H vs Q E hr h => ?_)
  · obtain ⟨t, lo, rfl, _⟩ := h
    rfl
  · obtain ⟨t, lo, rfl, hl, k⟩ := h
    refine ⟨_, pss_one (ps_if (PW.pt (pw_or (pt_not (pt_val (pe_call (ok_whole T) hr rfl T.g_is_whole T.U_is_whole.kp T.b_is_whole .nil pass0 (pa_cons (pv 0) pa_nil)))) (pw_or1 (pt_cmpR op_lt (pv 0) (pv 1) (nomark _)))))
        (pss_one ps_never)
        pss_nil), ?_⟩
    refine ⟨_, rfl, _, .int t, rfl, .int t, _, rfl, iteF ⟨_, rfl, _, rfl, _, _, rfl, rfl, _, rfl, ite2 (fun h => ?_) (fun _ => k)⟩⟩
    have := of_decide_eq_true h
    omega
theorem sc_ckr : FnScope ["given"] ["given"] (defScope s_check_rules) := ⟨rfl, rfl, rfl, by decide +kernel, rfl, by decide +kernel, by decide +kernel⟩
theorem ok_ckr (T : D K mg) (TB : Tabs base T) : FnOk P w K mg base CX0 7 T.f_check_rules T.d_check_rules ["given"] (spCk (tabs T) rulesD) := by
  refine T.U_check_rules.ok sc_ckr (fun vs H Q E h => ?_) (fun cdv A outer s H vs Q E hr h => ?_)
  · obtain ⟨v, d, rfl, _⟩ := h
    rfl
  · obtain ⟨v, d, rfl, hd, hl, hT, k⟩ := h
    refine ⟨_, pss_one (ps_if (pt_not (pt_val (pe_call (ok_rules T TB) hr rfl T.g_are_rules T.U_are_rules.kp T.b_are_rules .nil pass0 (pa_cons (pv 0) pa_nil))))
        (pss_one ps_never)
        pss_nil), ?_⟩
    refine ⟨_, rfl, v, d, rfl, hd, trivial, hT, fun H2 u2 => ⟨_, rfl, ?_⟩⟩
    rw [hl]
    exact iteF (k H2 u2)
theorem sc_back : FnScope ["values", "least", "index", "moment"] ["values"] (defScope s_first_back) := ⟨rfl, rfl, rfl, by decide +kernel, rfl, by decide +kernel, by decide +kernel⟩
theorem sc_cka : FnScope ["given", "index"] ["given"] (defScope s_check_asks) := ⟨rfl, rfl, rfl, by decide +kernel, rfl, by decide +kernel, by decide +kernel⟩
end
end KP
set_option Elab.async false
set_option maxRecDepth 100000
set_option maxHeartbeats 4000000
set_option linter.all false
/-! Ours: the functions that are asked, of right arguments. -/
namespace KP
open PySem PySem.Spec PyProof.Rows L2 Gr GxR
structure Right (ps : List (Int × Int)) (hs ns : List Int) : Prop where
  r : rulesD (rulesP ps hs) = true
  p : ∀ p ∈ ps, 1 ≤ p.1
  h : 0 < hs.length
  a : asc 0 ns
  n : ns.length ≤ 200
section
variable {P : Program} {w : World} {K : PySem.W.Frag} {mg : Str → Option Value} {base : Heap}
theorem sc_fw : FnScope ["rules", "asks"] ["rules", "asks"] (defScope s_first_wrong) := ⟨rfl, rfl, rfl, by decide +kernel, rfl, by decide +kernel, by decide +kernel⟩
theorem sc_pol : FnScope ["rules", "asks"] ["rules", "asks"] (defScope s_is_polite) := ⟨rfl, rfl, rfl, by decide +kernel, rfl, by decide +kernel, by decide +kernel⟩
end
end KP
set_option Elab.async false
set_option maxRecDepth 100000
set_option maxHeartbeats 4000000
set_option linter.all false
/-! Ours: may_ask, of right arguments and polite asks. -/
namespace KP
open PySem PySem.Spec PyProof.Rows L2 Gr GxR
theorem atI_mapV {ns : List Int} {i x : Int} (h : atI ns i = some x) : atI (ns.map V.int) i = some (.int x) := by
  unfold atI at h ⊢
  rw [List.length_map]
  cases e : ixN ns.length i with
  | none => rw [e] at h; cases h
  | some j =>
    rw [e] at h
    have h : ns[j]? = some x := h
    show (ns.map V.int)[j]? = _
    rw [List.getElem?_map, h]
    rfl
end KP
set_option Elab.async false
set_option maxRecDepth 100000
set_option maxHeartbeats 4000000
set_option linter.all false
/-! Ours: counts that fit limits. -/
namespace KP
open PySem PySem.Spec PyProof.Rows L2 Gr GxR
def prD (p : Int × Int) : PyData := .tuple [.int p.1, .int p.2]
def Lim (ps : List (Int × Int)) : Prop := ps.length ≤ 4 ∧ ∀ p ∈ ps, 1 ≤ p.1 ∧ p.1 ≤ 6 ∧ 1 ≤ p.2 ∧ p.2 ≤ 12
def spanP (ps : List (Int × Int)) : Int := maxI 1 (ps.map (·.2)) - 1
theorem foldl_bound : ∀ (l : List Int) (n : Int), n ≤ 12 → (∀ x ∈ l, x ≤ 12) → n ≤ l.foldl max n ∧ l.foldl max n ≤ 12
  | [], n, h, _ => ⟨Int.le_refl _, h⟩
  | x :: l, n, h, hl => by
    have hx := hl x List.mem_cons_self
    have := foldl_bound l (max n x) (by omega) fun y hy => hl y (List.mem_cons_of_mem _ hy)
    rw [List.foldl_cons]
    exact ⟨by omega, this.2⟩
theorem span_bound {ps : List (Int × Int)} (h : Lim ps) : 0 ≤ spanP ps ∧ spanP ps ≤ 11 := by
  unfold spanP
  cases ps with
  | nil => exact ⟨by decide, by decide⟩
  | cons p l =>
    have hp := h.2 p List.mem_cons_self
    have := foldl_bound (l.map (·.2)) p.2 (by omega) fun x hx => by
      obtain ⟨q, hq, rfl⟩ := List.mem_map.mp hx
      have := h.2 q (List.mem_cons_of_mem _ hq)
      omega
    show 0 ≤ (l.map (·.2)).foldl max p.2 - 1 ∧ (l.map (·.2)).foldl max p.2 - 1 ≤ 11
    omega
/-- the pair at i, as it stands -/
theorem OdAll.pair {H : Hp} {xs : List V} {ps : List (Int × Int)} (o : OdAll H xs (ps.map prD)) {i : Nat} {x : V} (hx : xs[i]? = some x) : ∃ p b, ps[i]? = some p ∧ x = .ref b ∧ H b = some (.tup [.int p.1, .int p.2]) := by
  have hi : i < ps.length := by
    have := o.len
    rw [List.length_map] at this
    rw [← this]
    exact (List.getElem?_eq_some_iff.mp hx).1
  have e : (ps.map prD)[i]? = some (prD ps[i]) := by rw [List.getElem?_map, List.getElem?_eq_getElem hi]; rfl
  obtain ⟨v, hv, ov⟩ := OdAll.get o e
  rw [hx] at hv
  cases hv
  obtain ⟨b, ys, rfl, eb, ob⟩ := od_tup ov
  match ys, ob with
  | [_, _], .cons (.int _) (.cons (.int _) .nil) => exact ⟨ps[i], b, List.getElem?_eq_getElem hi, rfl, eb⟩
def spSpan : Sp := fun vs H Q _ => ∃ (v : V) (ps : List (Int × Int)), vs = [v] ∧ Od H v (.tuple (ps.map prD)) ∧ Lim ps ∧ ∀ H', Same H H' → Q (.int (spanP ps)) H'
section
variable {P : Program} {w : World} {K : PySem.W.Frag} {mg : Str → Option Value} {base : Heap}
theorem sc_span : FnScope ["limits", "_", "wide"] ["limits"] (defScope s_span_of) := ⟨rfl, rfl, rfl, by decide +kernel, rfl, by decide +kernel, by decide +kernel⟩
theorem ok_span (T : D K mg) : FnOk P w K mg base CX0 1 T.f_span_of T.d_span_of ["limits"] spSpan := by
  refine T.U_span_of.ok sc_span (fun vs H Q E h => ?_) (fun cdv A outer s H vs Q E hr h => ?_)
  · obtain ⟨v, d, rfl, _⟩ := h
    rfl
  · obtain ⟨v, ps, rfl, hd, hl, k⟩ := h
    have nd := sc_span.nd
    have mz : 5000 ≤ sizeLine := by decide
    refine ⟨_, pss_one (ps_ret (pe_op op_sub (pe_callBK (call_maxDef hr.hd hr.units) (by rfl) T.max (by decide +kernel) (pa_cons (pe_lc (own := [("_", 1), ("wide", 2)]) (g := gTup _ 2 (gCons (gName 1) (gCons (gName 2) gNil))) (tt := tYes) rfl nd (pi_tup (pv 0)) (blkOk_by (N := ["limits", "_", "wide"]) (sc := defScope s_span_of) (by decide +kernel)) (fun _ _ _ _ _ => pg_tup rfl (pgs_cons (pg_name (i := 1) nd rfl (.inl rfl)) (pgs_cons (pg_name (i := 2) nd rfl (.inl rfl)) pgs_nil))) (fun _ _ _ _ _ => pts_nil) (fun _ _ _ _ _ => pv 2)) pa_nil) (pk_cons pe_int pk_nil)) pe_int)), ?_⟩
    obtain ⟨a, xs, rfl, ea, oa⟩ := od_tup hd
    have lx : xs.length = ps.length := by rw [oa.len, List.length_map]
    refine ⟨_, rfl, a, rfl, ⟨xs, SqT.of ea⟩, fun D hD => lc_tup (K := K) (a := a) (xs := xs) (fun i H2 => Same H H2 ∧ H2 D = some (.lst (((ps.take i).map (·.2)).map V.int))) ⟨same_upd hD, upd_same⟩ (fun i H2 _ q => SqT.of (q.1 _ _ ea)) ?_ ?_⟩
    · rintro i x H2 hx ⟨s2, e2⟩
      obtain ⟨p, b, hp, rfl, eb⟩ := OdAll.pair oa hx
      refine ⟨b, _, rfl, SqT.of (s2 _ _ eb), rfl, _, _, rfl, _, _, rfl, rfl, rfl, ?_⟩
      unfold tYes
      dsimp only
      rw [if_pos rfl]
      have hip := (List.getElem?_eq_some_iff.mp hp).1
      refine ⟨_, rfl, _, e2, by rw [List.length_map, List.length_map, List.length_take]; have := hl.1; omega, same_into hD s2, ?_⟩
      rw [upd_same, List.take_add_one, hp, List.map_append, List.map_append]
      rfl
    · rintro H2 ⟨s2, e2⟩
      rw [lx, List.take_length] at e2
      refine ⟨D, ps.map (fun p : Int × Int => p.2), 1, rfl, rfl, SqL.of e2, _, _, rfl, rfl, k H2 s2⟩
end
end KP
set_option Elab.async false
set_option maxRecDepth 100000
set_option maxHeartbeats 4000000
set_option linter.all false
/-! Ours: counts that fit limits: the windows. -/
namespace KP
open PySem PySem.Spec PyProof.Rows L2 Gr GxR
theorem sl_tupAB {X : Cx} {s : Shared} {H : Hp} {sc : Scope} {en : Env} {fp : List Addr} : SlR (X.blk s H sc en fp) (rSlA X.K) := sl_tupA
theorem cr_sumTB {X : Cx} {s : Shared} {H : Hp} {sc : Scope} {en : Env} {fp : List Addr} (hd : X.A.handled = none) : CallR (X.blk s H sc en fp) (.builtin "sum") (rSumT X.K) := cr_sumT (X := X.blk s H sc en fp) hd
end KP
set_option Elab.async false
set_option maxRecDepth 100000
set_option maxHeartbeats 4000000
set_option linter.all false
/-! Ours: min(numbers, default=None). -/
namespace Gr
open PySem PySem.Spec PyProof.Rows L2 GxR
def minV : List Int → V
  | [] => .non
  | n :: ns => .int (ns.foldl min n)
def rMinDef (K : PySem.W.Frag) : List V → List V → Hp → VK → Prop := fun vs zs H Q => ∃ (a : Addr) (ns : List Int) (_k : Int), vs = [.ref a] ∧ zs = [.non] ∧ SqL K H a (ns.map V.int) ∧ Q (minV ns) H
theorem call_minDef {X : Cx} (hd : X.A.handled = none) (hu : X.A.units + 64 < cLine) : CallRK X (.builtin "min") [("default" : Str)] (rMinDef X.K) := by
  intro pins s σ H xs zs us ws Q I rx rz h
  obtain ⟨a, ns, k, rfl, rfl, hS, q⟩ := h
  obtain ⟨u, rfl, ru⟩ := vals1 rx
  obtain ⟨uw, rfl, rw2⟩ := vals1 rz
  cases ru
  cases rw2
  obtain ⟨its, rv, pl, hz⟩ := I.list hS
  obtain ⟨as, ra⟩ := ints_reads (h := s.heap) rv
  refine PySem.W.min_list_default (xs := ns.map PyData.int) (d := .none) hd pl.isList (by exact ra) (ints_alike ns) (by have := ints_depth ns; omega) (fun e h' tk hk => ?_) (fun y ys i v h' tk bs e hv hr hk => ?_)
  · cases ns with
    | nil => exact ⟨.non, H, I.kept (t' := tk) hk, rfl, q⟩
    | cons n l => cases e
  · cases ns with
    | nil => cases e
    | cons n l =>
      have e1 : y = .int n := (List.cons.inj e).1.symm
      have e2 : ys = l.map PyData.int := (List.cons.inj e).2.symm
      subst e1
      subst e2
      rw [PySem.W.minD_ints] at hr
      cases hr
      exact ⟨.int _, H, I.kept (t' := tk) hk, ⟨_, rfl⟩, q⟩
end Gr
set_option Elab.async false
set_option maxRecDepth 100000
set_option maxHeartbeats 4000000
set_option linter.all false
/-! Ours: tracked tuples joined and cut, told without cases; the same within a comprehension. -/
namespace Gr
open PySem PySem.Spec PyProof.Rows L2 GxR
/-- two tracked tuples joined -/
theorem cat_tt {K : PySem.W.Frag} {H : Hp} {a b : Addr} {xs ys : List V} {Q : VK} (ha : H a = some (.tup xs)) (hb : H b = some (.tup ys)) (hl : xs.length + ys.length ≤ sizeLine) (k : ∀ p H', Same H H' → H' p = some (.tup (xs ++ ys)) → Q (.ref p) H') : rCatA K (.ref a) (.ref b) H Q := by
  refine ⟨a, b, xs, ys, rfl, rfl, SqT.of ha, SqT.of hb, hl, fun z => ?_, fun _ z => ?_, fun _ _ p hp => k p _ (same_upd hp) upd_same⟩
  · subst z
    exact k b H (.refl H) hb
  · subst z
    exact k a H (.refl H) (by rw [List.append_nil]; exact ha)
/-- the first w of a tracked tuple -/
theorem slice_tt {K : PySem.W.Frag} {H : Hp} {a : Addr} {xs : List V} {w : Int} {Q : VK} (hw : 0 ≤ w) (ha : H a = some (.tup xs)) (k : ∀ p H', Same H H' → H' p = some (.tup (xs.take w.toNat)) → Q (.ref p) H') : rSlA K (.ref a) none (some w) H Q := by
  have e1 : HT.sIx xs.length xs.length (some w) = min w.toNat xs.length := by
    show (if w < 0 then (w + ((xs.length : Nat) : Int)).toNat else min w.toNat xs.length) = _
    rw [if_neg (by omega)]
  have e0 : HT.sIx xs.length 0 none = 0 := HT.sIx_none _ _
  refine ⟨a, xs, rfl, SqT.of ha, fun z => ?_, fun _ p hp => k p _ (same_upd hp) ?_⟩
  · rw [e1] at z
    exact k a H (.refl H) (by rw [List.take_of_length_le (by omega)]; exact ha)
  · rw [upd_same]
    unfold cutV
    rw [e0, e1, List.drop_zero, Nat.sub_zero]
    congr 2
    by_cases y : w.toNat ≤ xs.length
    · rw [Nat.min_eq_left y]
    · rw [Nat.min_eq_right (by omega), List.take_of_length_le (Nat.le_refl _), List.take_of_length_le (by omega)]
end Gr
set_option Elab.async false
set_option maxRecDepth 100000
set_option linter.all false
/-! Ours: keeping apart is counting: mathematics. -/
namespace KP
open PySem PySem.Spec PyProof.Rows L2 Gr GxR
def Srt (ns : List Int) : Prop := ∀ (i j : Nat) (hi : i < ns.length) (hj : j < ns.length), i ≤ j → ns[i] ≤ ns[j]
theorem asc_get : ∀ {ns : List Int} {m : Int}, asc m ns → ∀ (i : Nat) (hi : i < ns.length), m ≤ ns[i]
  | n :: l, m, h, 0, _ => h.1
  | n :: l, m, h, i + 1, hi => by
    have hi' : i < l.length := by simpa using hi
    have a := asc_get h.2 i hi'
    have b := h.1
    show m ≤ l[i]
    omega
theorem asc_srt : ∀ {ns : List Int} {m : Int}, asc m ns → Srt ns
  | [], _, _, i, j, hi, _, _ => absurd hi (Nat.not_lt_zero _)
  | n :: l, m, h, 0, 0, _, _, _ => Int.le_refl _
  | n :: l, m, h, 0, j + 1, _, hj, _ => asc_get h.2 j (by simpa using hj)
  | n :: l, m, h, i + 1, 0, _, _, hij => absurd hij (Nat.not_succ_le_zero _)
  | n :: l, m, h, i + 1, j + 1, hi, hj, hij => asc_srt h.2 i j (by simpa using hi) (by simpa using hj) (by omega)
def above (c : Int) (ns : List Int) : Nat := ns.countP (fun x => decide (c < x))
theorem above_split (c : Int) (ns : List Int) (m : Nat) : above c ns = above c (ns.take m) + above c (ns.drop m) := by
  unfold above
  rw [← List.countP_append, List.take_append_drop]
theorem above_all {c : Int} {ns : List Int} (h : ∀ x ∈ ns, c < x) : above c ns = ns.length := by
  unfold above
  rw [List.countP_eq_length]
  intro x hx
  exact decide_eq_true (h x hx)
theorem above_none {c : Int} {ns : List Int} (h : ∀ x ∈ ns, x ≤ c) : above c ns = 0 := by
  unfold above
  rw [List.countP_eq_zero]
  intro x hx q
  have := of_decide_eq_true q
  have := h x hx
  omega
theorem above_le (c : Int) (ns : List Int) : above c ns ≤ ns.length := List.countP_le_length
/-- k or more stand above c exactly if the one k from the end does -/
theorem above_iff {ns : List Int} (hs : Srt ns) {c : Int} {k : Nat} (hk : 1 ≤ k) (hl : k ≤ ns.length) : k ≤ above c ns ↔ c < ns[ns.length - k] := by
  constructor
  · intro h
    by_cases q : c < ns[ns.length - k]
    · exact q
    · exfalso
      have e := above_split c ns (ns.length - k + 1)
      have z : above c (ns.take (ns.length - k + 1)) = 0 := above_none fun x hx => by
        obtain ⟨i, hi, rfl⟩ := List.getElem_of_mem hx
        rw [List.length_take] at hi
        rw [List.getElem_take]
        have := hs i (ns.length - k) (by omega) (by omega) (by omega)
        omega
      have d := above_le c (ns.drop (ns.length - k + 1))
      rw [List.length_drop] at d
      omega
  · intro h
    have e := above_split c ns (ns.length - k)
    have z : above c (ns.drop (ns.length - k)) = (ns.drop (ns.length - k)).length := above_all fun x hx => by
      obtain ⟨i, hi, rfl⟩ := List.getElem_of_mem hx
      rw [List.length_drop] at hi
      rw [List.getElem_drop]
      have := hs (ns.length - k) (ns.length - k + i) (by omega) (by omega) (by omega)
      omega
    rw [List.length_drop] at z
    omega
/-- with t itself no more than k stand within the last w moments -/
theorem ap_count {ns : List Int} (hs : Srt ns) {t : Int} {q : Int × Int} (h1 : 1 ≤ q.1) : apI ns t q = decide (((above (t - q.2) ns : Nat) : Int) < q.1) := by
  have hle := above_le (t - q.2) ns
  unfold apI
  by_cases hl : ((ns.length : Nat) : Int) < q.1
  · rw [decide_eq_true hl, decide_eq_true (by omega), Bool.true_or]
  · rw [decide_eq_false hl, Bool.false_or]
    obtain ⟨x, hx⟩ := atI_some h1 hl
    rw [hx]
    have hk : 1 ≤ q.1.toNat := by omega
    have hl' : q.1.toNat ≤ ns.length := by omega
    have ex : x = ns[ns.length - q.1.toNat] := by
      unfold atI ixN at hx
      rw [if_neg (by omega), if_pos (by omega)] at hx
      have hx : ns[(-q.1 + ((ns.length : Nat) : Int)).toNat]? = some x := hx
      have e : (-q.1 + ((ns.length : Nat) : Int)).toNat = ns.length - q.1.toNat := by omega
      rw [e, List.getElem?_eq_getElem (by omega)] at hx
      exact (Option.some.inj hx).symm
    have := above_iff hs (c := t - q.2) hk hl'
    rw [← ex] at this
    show decide (q.2 ≤ t - x) = _
    rw [Bool.eq_iff_iff, decide_eq_true_eq, decide_eq_true_eq]
    constructor
    · intro h
      have : ¬ q.1.toNat ≤ above (t - q.2) ns := fun z => by
        have := this.mp z
        omega
      omega
    · intro h
      have : ¬ t - q.2 < x := fun z => by
        have := this.mpr z
        omega
      omega
end KP
set_option Elab.async false
set_option maxRecDepth 100000
set_option maxHeartbeats 4000000
set_option linter.all false
/-! Ours: the law's open hours; its first wrong ask by a list's length. -/
namespace KP
open PySem PySem.Spec PyProof.Rows L2 Gr GxR
theorem ix_tupB {X : Cx} {s : Shared} {H : Hp} {sc : Scope} {en : Env} {fp : List Addr} : IxR (X.blk s H sc en fp) (rIxT X.K) := ix_tup
theorem IsI.same {H H1 : Hp} {v : V} {ns : List Int} (h : IsI H v ns) (s : Same H H1) : IsI H1 v ns := let ⟨a, e, o⟩ := h; ⟨a, e, s _ _ o⟩
/-- t[:i], all of it too -/
theorem sl_upto {K : PySem.W.Frag} {x : V} {ns : List Int} {i : Nat} {H : Hp} {Q : VK} (h : IsI H x ns) (k : ∀ z H', Same H H' → IsI H' z (ns.take i) → Q z H') : rSlA K x none (some (i : Int)) H Q := by
  obtain ⟨a, rfl, o⟩ := h
  refine ⟨a, _, rfl, SqT.of o, fun q => ?_, fun _ p hp => k _ _ (same_upd hp) ⟨p, rfl, by rw [upd_same, cutV_to, List.map_take]⟩⟩
  rw [HT.sIx_nat, List.length_map] at q
  refine k _ _ (.refl _) ⟨a, rfl, ?_⟩
  rw [List.take_of_length_le (by omega)]
  exact o
def spWrongAt : Sp := fun vs H Q _ => ∃ (lv hv av : V) (ps : List (Int × Int)) (hs ns : List Int), vs = [lv, hv, av] ∧ Od H lv (.tuple ((ps.map inD).map tw)) ∧ (∀ p ∈ ps, 1 ≤ p.1 ∧ 1 ≤ p.2 ∧ p.2 ≤ 1000) ∧ Od H hv (.tuple (hs.map PyData.int)) ∧ 0 < hs.length ∧ Od H av (.tuple (ns.map PyData.int)) ∧ Srt ns ∧ ns.length ≤ 1000 ∧ ∀ H', Same H H' → Q (optV (firstI ps hs ns)) H'
theorem ifop {r : R2} {t1 t2 : TE} {t u : TS} {D : Ends} {σ : L2.St} {H : Hp} (h : t1 σ H fun x H1 => t2 σ H1 fun y H2 => r x y H2 fun x H' => ∃ k, x = V.bl k ∧ if k = true then t D σ H' else u D σ H') : tIfS (tTest (tOp r t1 t2)) t u D σ H := h
theorem pair_at {H : Hp} : ∀ {ls : List V} {ps : List (Int × Int)}, OdAll H ls ((ps.map inD).map tw) → ∀ {i : Nat} {x : V}, ls[i]? = some x → ∃ p b, ps[i]? = some p ∧ x = .ref b ∧ H b = some (.tup [.int p.1, .int p.2])
  | _, [], .nil, i, x, h => by cases h
  | _, p :: ps, .cons a _, 0, x, h => by
    cases h
    obtain ⟨b, xs, rfl, e, o⟩ := od_tup a
    match xs, o with
    | [y, z], .cons o1 (.cons o2 .nil) =>
      cases o1
      cases o2
      exact ⟨p, b, rfl, rfl, e⟩
  | _, p :: ps, .cons _ r, i + 1, x, h => pair_at (ps := ps) r (i := i) h
theorem above_len (c : Int) (l : List Int) : above c l = (l.filter fun x => decide (c < x)).length := List.countP_eq_length_filter
theorem above_take {ns : List Int} {i : Nat} (hi : i < ns.length) {w : Int} (hw : 1 ≤ w) : above (ns[i] - w) (ns.take (i + 1)) = above (ns[i] - w) (ns.take i) + 1 := by
  rw [List.take_add_one, List.getElem?_eq_getElem hi]
  unfold above
  rw [List.countP_append]
  congr 1
  show List.countP _ [ns[i]] = 1
  rw [List.countP_cons_of_pos (by exact decide_eq_true (by omega)), List.countP_nil]
theorem srt_take {ns : List Int} (h : Srt ns) (i : Nat) : Srt (ns.take i) := fun a b ha hb hab => by
  rw [List.length_take] at ha hb
  rw [List.getElem_take, List.getElem_take]
  exact h a b (by omega) (by omega) hab
section
variable {P : Program} {w : World} {K : PySem.W.Frag} {mg : Str → Option Value} {base : Heap}
theorem sc_lopen : FnScope ["_law_clock", "_law_time"] ["_law_clock", "_law_time"] (defScope s_l_open) := ⟨rfl, rfl, rfl, by decide +kernel, rfl, by decide +kernel, by decide +kernel⟩
theorem ok_lopen (T : D K mg) : FnOk P w K mg base CX0 1 T.f_l_open T.d_l_open ["_law_clock", "_law_time"] spOpens := by
  refine T.U_l_open.ok sc_lopen (fun vs H Q E h => ?_) (fun cdv A outer s H vs Q E hr h => ?_)
  · obtain ⟨hv, hs, t, rfl, _⟩ := h
    rfl
  · obtain ⟨hv, hs, t, rfl, ho, h0, k⟩ := h
    have nd := sc_lopen.nd
    obtain ⟨a, xs, rfl, ea, oa⟩ := od_tup ho
    have exs := od_nums oa
    subst exs
    refine ⟨_, pss_one (ps_ret (pe_cmpR op_eq (pe_ix ix_tup (pv 0) (pe_op op_mod (pe_callTy call_int1 (by rfl) T.int PyProof.Rows.boot_int (pa_cons (pv 1) pa_nil)) (pe_callB call_len_seq (by rfl) T.len PySem.boot_len (pa_cons (pv 0) pa_nil))) (fun _ _ => rfl)) pe_int (nomark _))), ?_⟩
    have hb := Int.emod_nonneg t (b := ((hs.length : Nat) : Int)) (by omega)
    have hc := Int.emod_lt_of_pos t (b := ((hs.length : Nat) : Int)) (by omega)
    have hj : (t % ((hs.length : Nat) : Int)).toNat < hs.length := by omega
    have ex : atI (hs.map V.int) (t % (((hs.map V.int).length : Nat) : Int)) = some (V.int hs[(t % ((hs.length : Nat) : Int)).toNat]) := by
      rw [List.length_map]
      obtain ⟨j, ej⟩ : ∃ j : Nat, t % ((hs.length : Nat) : Int) = (j : Int) := ⟨(t % ((hs.length : Nat) : Int)).toNat, by omega⟩
      have hj2 : j < hs.length := by omega
      refine (congrArg (atI (hs.map V.int)) ej).trans ((atI_nat (v := V.int hs[j]) ?_).trans ?_)
      · rw [List.getElem?_map, List.getElem?_eq_getElem hj2]
        rfl
      · congr 2
        congr 1
        omega
    refine ⟨_, rfl, _, rfl, .inl ⟨_, rfl, _, rfl, a, _, rfl, .inr (SqT.of ea), _, _, rfl, rfl, by rw [List.length_map]; omega, a, _, _, _, rfl, rfl, SqT.of ea, ex, rfl, ?_⟩⟩
    have e : decide (V.int hs[(t % ((hs.length : Nat) : Int)).toNat] = V.int 1) = openI hs t := by
      unfold openI
      rw [List.getElem?_eq_getElem hj, Bool.eq_iff_iff]
      simp
    rw [e]
    exact k
theorem sc_lwat : FnScope ["_law_pairs", "_law_clock", "_law_row", "_law_at", "_law_time", "_law_pair", "_law_other"] ["_law_pairs", "_law_clock", "_law_row"] (defScope s_l_wrong_at) := ⟨rfl, rfl, rfl, by decide +kernel, rfl, by decide +kernel, by decide +kernel⟩
theorem ok_lwat (T : D K mg) : FnOk P w K mg base CX0 2 T.f_l_wrong_at T.d_l_wrong_at ["_law_pairs", "_law_clock", "_law_row"] spWrongAt := by
  refine T.U_l_wrong_at.ok sc_lwat (fun vs H Q E h => ?_) (fun cdv A outer s H vs Q E hr h => ?_)
  · obtain ⟨lv, hv, av, ps, hs, ns, rfl, _⟩ := h
    rfl
  · obtain ⟨lv, hv, av, ps, hs, ns, rfl, hL, hp, hH, h0, hA, hs', hn, k⟩ := h
    have nd := sc_lwat.nd
    have mz : 5000 ≤ sizeLine := by decide
    refine ⟨_, pss_cons (ps_for PassesOwn.never rfl (pi_enumT (by rfl) T.enumerate (pa_cons (pv 2) pa_nil)) (pg_tup rfl (pgs_cons (pg_name (i := 3) nd rfl (.inl rfl)) (pgs_cons (pg_name (i := 4) nd rfl (.inr rfl)) pgs_nil)))
        (pss_cons (ps_if (pt_not (pt_val (pe_call (ok_lopen T) hr rfl T.g_l_open T.U_l_open.kp T.b_l_open .nil pass0 (pa_cons (pv 1) (pa_cons (pv 4) pa_nil)))))
          (pss_one (ps_ret (pv 3)))
          (pss_nil))
        (pss_one (ps_for PassesOwn.never rfl (pi_tup (pv 0)) (pg_name (i := 5) nd rfl (.inr rfl))
          (pss_one (ps_if (pt_cmpR op_gt (pe_callB call_len_seq (by rfl) T.len PySem.boot_len (pa_cons (pe_lc (own := [("_law_other", 6)]) (g := gName 6) rfl nd (pi_tup (pe_slice sl_tupA (pv 2) po_none (po_some (pe_op op_add (pv 3) pe_int)))) (blkOk_by (N := ["_law_pairs", "_law_clock", "_law_row", "_law_at", "_law_time", "_law_pair", "_law_other"]) (sc := defScope s_l_wrong_at) (by decide +kernel)) (fun _ _ _ _ _ => pg_name (i := 6) nd rfl (.inl rfl)) (fun _ _ _ _ _ => (pts_one (pt_cmpR op_gt (pv 6) (pe_op op_sub (pv 4) (pe_ix ix_tupB (pv 5) pe_int (fun _ _ => rfl))) (nomark _)))) (fun _ _ _ _ _ => pv 6)) pa_nil)) (pe_ix ix_tup (pv 5) pe_int (fun _ _ => rfl)) (nomark _))
            (pss_one (ps_ret (pv 3)))
            (pss_nil)))))))
      (pss_one (ps_ret pe_non)), ?_⟩
    obtain ⟨a, rfl, ea⟩ := od_I hA
    obtain ⟨la, ls, rfl, el, ol⟩ := od_tup hL
    have lls : ls.length = ps.length := by rw [ol.len, List.length_map, List.length_map]
    refine ⟨_, rfl, a, _, rfl, SqT.of ea, for_it (walk_tp (K := K) (a := a) (xs := ns.map V.int)) (fun i σ H2 => Same H H2 ∧ (∀ j, j < i → politeAt ps hs ns j = true) ∧ ∃ (v3 v4 v5 v6 : Option V), σ = [some (.ref la), some hv, some (.ref a), v3, v4, v5, v6]) ⟨.refl _, fun _ h => absurd h (Nat.not_lt_zero _), none, none, none, none, rfl⟩ (fun i σ H2 _ q => SqT.of (q.1 _ _ ea)) ?_ ?_⟩
    · rintro i x σ H2 H3 hi ⟨s2, hpo, v3, v4, v5, v6, rfl⟩ ⟨Tt, y, rfl, hTn, rfl, hy⟩
      rw [List.length_map] at hi
      rw [List.getElem?_map, List.getElem?_eq_getElem hi] at hy
      cases hy
      have s3 := s2.trans (same_upd (o := HO.tup [V.int (i : Nat), V.int ns[i]]) hTn)
      refine ⟨_, _, rfl, SqT.of upd_same, rfl, _, _, rfl, _, _, rfl, rfl, ?_⟩
      dsimp only
      generalize upd H2 Tt (.tup [V.int (i : Nat), V.int ns[i]]) = H3 at *
      have eg : ns.getD i 0 = ns[i] := by rw [List.getD_eq_getElem?_getD, List.getElem?_eq_getElem hi]; rfl
      have ep : politeAt ps hs ns i = (openI hs ns[i] && ps.all (apI (ns.take i) ns[i])) := by unfold politeAt; rw [eg]
      refine ⟨_, rfl, _, rfl, hv, hs, ns[i], rfl, hH.same s3, h0, _, rfl, ?_⟩
      cases ho : openI hs ns[i] with
      | false =>
        have q := k H3 s3
        rw [first_at hi hpo (by rw [ep, ho]; rfl)] at q
        exact iteT ⟨_, rfl, q⟩
      | true =>
        refine iteF (next_of ?_)
        dsimp only
        refine ⟨_, rfl, la, rfl, ⟨_, SqT.of (s3 _ _ el)⟩, for_tup (K := K) (a := la) (xs := ls) (fun m σ H5 => Same H3 H5 ∧ (∀ mm (hm : mm < ps.length), mm < m → apI (ns.take i) ns[i] ps[mm] = true) ∧ ∃ (v5 v6 : Option V), σ = [some (.ref la), some hv, some (.ref a), some (.int (i : Nat)), some (.int ns[i]), v5, v6]) ⟨.refl _, fun _ _ h => absurd h (Nat.not_lt_zero _), _, _, rfl⟩ (fun m σ H5 _ q => SqT.of (q.1 _ _ (s3 _ _ el))) ?_ ?_⟩
        · rintro m x σ H5 hx ⟨s5, hm, v5, v6, rfl⟩
          obtain ⟨p, b, hpm, rfl, eb⟩ := pair_at ol hx
          obtain ⟨hmp, hpe⟩ := List.getElem?_eq_some_iff.mp hpm
          have hpp := hp p (List.mem_of_getElem? hpm)
          have s05 := s3.trans s5
          refine ifop ?_
          refine ⟨_, rfl, _, rfl, _, _, rfl, rfl, _, rfl, sl_upto (i := i + 1) ⟨a, rfl, s05 _ _ ea⟩ fun z H6 s6 ⟨c, ec, oc⟩ => ?_⟩
          subst ec
          have s06 := s05.trans s6
          refine ⟨c, rfl, ⟨_, SqT.of oc⟩, fun D hD => lc_tup (K := K) (a := c) (xs := (ns.take (i + 1)).map V.int) (fun j Hx => Same H6 Hx ∧ Hx D = some (.lst ((((ns.take (i + 1)).take j).filter (fun x => decide (ns[i] - p.2 < x))).map V.int))) ⟨same_upd hD, upd_same⟩ (fun j Hx _ q => SqT.of (q.1 _ _ oc)) ?_ ?_⟩
          · rintro j x Hx hx ⟨sx, ex⟩
            rw [List.getElem?_map] at hx
            obtain ⟨n, hn', rfl⟩ := Option.map_eq_some_iff.mp hx
            refine ⟨rfl, ?_⟩
            have et : (ns.take (i + 1)).take (j + 1) = (ns.take (i + 1)).take j ++ [n] := by rw [List.take_add_one, hn']; rfl
            refine ⟨_, rfl, _, rfl, _, rfl, b, _, _, _, rfl, rfl, SqT.of (sx _ _ (s06 _ _ eb)), rfl, _, _, rfl, rfl, _, _, rfl, rfl, _, rfl, ite2 (fun h => ?_) (fun h => ?_)⟩
            · refine ⟨_, rfl, _, ex, ?_, same_into hD sx, ?_⟩
              · rw [List.length_map]
                have := List.length_filter_le (fun x => decide (ns[i] - p.2 < x)) ((ns.take (i + 1)).take j)
                rw [List.length_take, List.length_take] at this
                omega
              · rw [upd_same, et, List.filter_append, List.map_append, List.filter_cons_of_pos (by exact h)]
                rfl
            · refine ⟨sx, ?_⟩
              rw [ex, et, List.filter_append, List.filter_cons_of_neg (by exact h), List.filter_nil, List.append_nil]
          · rintro Hx ⟨sx, ex⟩
            rw [List.length_map, List.take_length] at ex
            have s0x := s06.trans sx
            have ec : (((((ns.take (i + 1)).filter (fun x => decide (ns[i] - p.2 < x))).map V.int).length : Nat) : Int) = ((above (ns[i] - p.2) (ns.take i) + 1 : Nat) : Int) := by
              rw [List.length_map, ← above_len, above_take hi hpp.2.1]
            have eap := ap_count (srt_take hs' i) (t := ns[i]) (q := p) hpp.1
            refine ⟨D, _, rfl, .inl (SqL.of ex), _, rfl, b, _, _, _, rfl, rfl, SqT.of (s0x _ _ eb), rfl, _, _, rfl, rfl, _, rfl, ite2 (fun h => ?_) (fun h => ?_)⟩
            · have h := of_decide_eq_true h
              have hbad : apI (ns.take i) ns[i] p = false := by
                rw [eap]
                exact decide_eq_false (by omega)
              have q := k Hx s0x
              rw [first_at hi hpo (by
                rw [ep, ho, Bool.true_and, Bool.eq_false_iff]
                intro z
                have := List.all_eq_true.mp z p (List.mem_of_getElem? hpm)
                rw [hbad] at this
                cases this)] at q
              exact ⟨_, rfl, q⟩
            · have h : ¬ p.1 < ((above (ns[i] - p.2) (ns.take i) + 1 : Nat) : Int) := fun q => h (decide_eq_true (by rw [ec]; exact q))
              refine ⟨s5.trans (s6.trans sx), fun mm hmm hml => ?_, _, _, rfl⟩
              by_cases zz : mm = m
              · subst zz
                rw [hpe, eap]
                exact decide_eq_true (by omega)
              · exact hm mm hmm (by omega)
        · rintro σ H5 ⟨s5, hm, v5, v6, rfl⟩
          refine ⟨s3.trans s5, fun j hj => ?_, _, _, _, _, rfl⟩
          by_cases zz : j = i
          · subst zz
            rw [ep, ho, Bool.true_and]
            refine List.all_eq_true.mpr fun q hq => ?_
            obtain ⟨mm, hmm, rfl⟩ := List.getElem_of_mem hq
            exact hm mm hmm (by rw [lls]; exact hmm)
          · exact hpo j (by omega)
    · rintro σ H2 ⟨s2, hpo, v3, v4, v5, v6, rfl⟩
      rw [List.length_map] at hpo
      have q := k H2 s2
      rw [first_none hpo] at q
      exact q
end
end KP
set_option Elab.async false
set_option maxRecDepth 100000
set_option maxHeartbeats 4000000
set_option linter.all false
/-! Ours: the first wrong ask by a dict of counts. -/
namespace KP
open PySem PySem.Spec PyProof.Rows L2 Gr GxR
theorem above_step (c : Int) : ∀ l : List Int, above (c - 1) l = above c l + l.count c
  | [] => rfl
  | x :: l => by
    have ih := above_step c l
    unfold above at ih ⊢
    rw [List.countP_cons, List.countP_cons, List.count_cons, ih]
    by_cases h1 : c < x
    · have h2 : ¬ x = c := by omega
      simp only [decide_eq_true h1, decide_eq_true (show c - 1 < x by omega), beq_iff_eq, h2, if_true, if_false]
      omega
    · by_cases h2 : x = c
      · subst h2
        simp only [decide_eq_false h1, decide_eq_true (show x - 1 < x by omega), beq_self_eq_true, if_true, Bool.false_eq_true, if_false]
        omega
      · simp only [decide_eq_false h1, decide_eq_false (show ¬ c - 1 < x by omega), beq_iff_eq, h2, Bool.false_eq_true, if_false]
        omega
end KP
set_option Elab.async false
set_option maxRecDepth 100000
set_option maxHeartbeats 4000000
set_option linter.all false
/-! Ours: the soonest ask, one. -/
namespace KP
open PySem PySem.Spec PyProof.Rows L2 Gr GxR
theorem open_soon {hs : List Int} {j : Nat} (hj : j < hs.length) (h1 : hs[j] = 1) (t : Int) : ∃ s : Nat, s < hs.length ∧ openI hs (t + s) = true := by
  have h0 : 0 < hs.length := by omega
  refine ⟨((j : Int) - t).emod hs.length |>.toNat, ?_, ?_⟩
  · have := Int.emod_nonneg ((j : Int) - t) (b := ((hs.length : Nat) : Int)) (by omega)
    have := Int.emod_lt_of_pos ((j : Int) - t) (b := ((hs.length : Nat) : Int)) (by omega)
    show (((j : Int) - t) % ((hs.length : Nat) : Int)).toNat < _
    omega
  · have a := Int.emod_nonneg ((j : Int) - t) (b := ((hs.length : Nat) : Int)) (by omega)
    show openI hs (t + (((((j : Int) - t) % ((hs.length : Nat) : Int)).toNat : Nat) : Int)) = true
    rw [Int.toNat_of_nonneg a]
    unfold openI
    have e : (t + ((j : Int) - t) % ((hs.length : Nat) : Int)) % ((hs.length : Nat) : Int) = (j : Int) := by
      rw [Int.add_emod_emod, show t + ((j : Int) - t) = (j : Int) by omega]
      exact Int.emod_eq_of_lt (by omega) (by omega)
    rw [e, Int.toNat_natCast, List.getElem?_eq_getElem hj, h1]
    rfl
def cutI (ns : List Int) (lo hi : Option Int) : List Int := (ns.drop (HT.sIx ns.length 0 lo)).take (HT.sIx ns.length ns.length hi - HT.sIx ns.length 0 lo)
theorem cut_I (ns : List Int) (lo hi : Option Int) : cutV (ns.map V.int) lo hi = (cutI ns lo hi).map V.int := by
  unfold cutV cutI
  rw [List.length_map, List.map_take, List.map_drop]
theorem last_in {ns : List Int} {x : Int} (h : atI ns (-1) = some x) : x ∈ cutI ns (some (-1)) none := by
  have hl : ns ≠ [] := fun e => by rw [e] at h; cases h
  have hp : 0 < ns.length := List.length_pos_iff.mpr hl
  unfold atI ixN at h
  rw [if_neg (by omega), if_pos (by omega)] at h
  have h : ns[(-1 + ((ns.length : Nat) : Int)).toNat]? = some x := h
  have e : (-1 + ((ns.length : Nat) : Int)).toNat = ns.length - 1 := by omega
  rw [e] at h
  unfold cutI
  have es : HT.sIx ns.length 0 (some (-1)) = ns.length - 1 := by
    show (if (-1 : Int) < 0 then ((-1 : Int) + ((ns.length : Nat) : Int)).toNat else min (-1 : Int).toNat ns.length) = _
    rw [if_pos (by decide)]
    exact e
  rw [es, HT.sIx_none]
  obtain ⟨hi, hx⟩ := List.getElem?_eq_some_iff.mp h
  rw [List.drop_eq_getElem_cons hi, hx, show ns.length - (ns.length - 1) = 1 by omega]
  exact List.mem_cons_self
theorem atI_back {ns : List Int} {k x : Int} (h1 : 1 ≤ k) (h2 : k ≤ ((ns.length : Nat) : Int)) (h : atI ns (-k) = some x) : atI ns (((ns.length : Nat) : Int) - k) = some x := by
  unfold atI ixN at h ⊢
  rw [if_neg (by omega), if_pos (by omega)] at h
  rw [if_pos (by omega), if_pos (by omega)]
  have e : (-k + ((ns.length : Nat) : Int)).toNat = (((ns.length : Nat) : Int) - k).toNat := by omega
  rw [e] at h
  exact h
theorem ap_mono {ns : List Int} {t u : Int} {q : Int × Int} (h : apI ns t q = true) (l : t ≤ u) : apI ns u q = true := by
  unfold apI at h ⊢
  rw [Bool.or_eq_true] at h ⊢
  rcases h with h | h
  · exact .inl h
  · refine .inr ?_
    cases e : atI ns (-q.1) with
    | none => rw [e] at h; cases h
    | some x =>
      rw [e] at h
      have h := of_decide_eq_true h
      exact decide_eq_true (by omega)
end KP
set_option Elab.async false
set_option maxRecDepth 100000
set_option linter.all false
/-! Ours: the next ask, as the least one; rows of them. -/
namespace KP
open PySem PySem.Spec PyProof.Rows L2 Gr GxR
/-- t is behind the last of rs, from st on -/
def Past (rs : List Int) (st t : Int) : Prop := st ≤ t ∧ ∀ x, atI rs (-1) = some x → x ≤ t
structure IsNxt (ps : List (Int × Int)) (hs rs : List Int) (st t : Int) : Prop where
  past : Past rs st t
  opn : openI hs t = true
  all : ps.all (apI rs t) = true
  least : ∀ u, Past rs st u → openI hs u = true → ps.all (apI rs u) = true → t ≤ u
theorem IsNxt.one {ps : List (Int × Int)} {hs rs : List Int} {st t u : Int} (a : IsNxt ps hs rs st t) (b : IsNxt ps hs rs st u) : t = u := by
  have := a.least u b.past b.opn b.all
  have := b.least t a.past a.opn a.all
  omega
/-- each of ts is the next one behind ns and those ahead of it -/
def SRow (ps : List (Int × Int)) (hs ns : List Int) (st : Int) (ts : List Int) : Prop := ∀ (i : Nat) (h : i < ts.length), IsNxt ps hs (ns ++ ts.take i) st ts[i]
theorem SRow.nil {ps : List (Int × Int)} {hs ns : List Int} {st : Int} : SRow ps hs ns st [] := fun i h => absurd h (Nat.not_lt_zero i)
theorem SRow.snoc {ps : List (Int × Int)} {hs ns ts : List Int} {st t : Int} (h : SRow ps hs ns st ts) (n : IsNxt ps hs (ns ++ ts) st t) : SRow ps hs ns st (ts ++ [t]) := fun i hi => by
  rw [List.length_append] at hi
  have hi : i < ts.length + 1 := hi
  by_cases z : i < ts.length
  · rw [List.getElem_append_left z, List.take_append_of_le_length (by omega)]
    exact h i z
  · have e : i = ts.length := by omega
    subst e
    rw [List.getElem_append_right (Nat.le_refl _), List.take_left]
    simpa using n
theorem SRow.one {ps : List (Int × Int)} {hs ns ts us : List Int} {st : Int} (a : SRow ps hs ns st ts) (b : SRow ps hs ns st us) : ∀ i, i ≤ ts.length → i ≤ us.length → ts.take i = us.take i
  | 0, _, _ => by rw [List.take_zero, List.take_zero]
  | i + 1, h1, h2 => by
    have e := SRow.one a b i (by omega) (by omega)
    have n1 := a i (by omega)
    have n2 := b i (by omega)
    rw [e] at n1
    rw [List.take_add_one, List.take_add_one, List.getElem?_eq_getElem (by omega), List.getElem?_eq_getElem (by omega), e, n1.one n2]
theorem SRow.same {ps : List (Int × Int)} {hs ns ts us : List Int} {st : Int} (a : SRow ps hs ns st ts) (b : SRow ps hs ns st us) (h : ts.length = us.length) : ts = us := by
  have := SRow.one a b ts.length (Nat.le_refl _) (by omega)
  rw [List.take_of_length_le (Nat.le_refl _), List.take_of_length_le (by omega)] at this
  exact this
theorem SRow.take {ps : List (Int × Int)} {hs ns ts : List Int} {st : Int} (a : SRow ps hs ns st ts) (k : Nat) : SRow ps hs ns st (ts.take k) := fun i hi => by
  rw [List.length_take] at hi
  have := a i (by omega)
  rw [List.getElem_take, List.take_take, Nat.min_eq_left (by omega)]
  exact this
theorem SRow.drop {ps : List (Int × Int)} {hs ns ts : List Int} {st : Int} (a : SRow ps hs ns st ts) (k : Nat) : SRow ps hs (ns ++ ts.take k) st (ts.drop k) := fun i hi => by
  rw [List.length_drop] at hi
  have := a (k + i) (by omega)
  rw [List.getElem_drop, List.append_assoc, ← List.take_add]
  exact this
theorem last_at {ns : List Int} (h : 0 < ns.length) : atI ns (-1) = some (ns[ns.length - 1]'(by omega)) := by
  unfold atI ixN
  rw [if_neg (by omega), if_pos (by omega)]
  show ns[(-1 + ((ns.length : Nat) : Int)).toNat]? = _
  rw [show (-1 + ((ns.length : Nat) : Int)).toNat = ns.length - 1 by omega]
  exact List.getElem?_eq_getElem (by omega)
theorem last_some {ns : List Int} {x : Int} (h : atI ns (-1) = some x) : ∃ h0 : 0 < ns.length, x = ns[ns.length - 1]'(by omega) := by
  cases ns with
  | nil => cases h
  | cons n l =>
    rw [last_at (by simp)] at h
    exact ⟨by simp, (Option.some.inj h).symm⟩
theorem past_srt {ns : List Int} (hs : Srt ns) {st t : Int} (h : Past ns st t) : ∀ x ∈ ns, x ≤ t := fun x hx => by
  obtain ⟨i, hi, rfl⟩ := List.getElem_of_mem hx
  have := h.2 _ (last_at (by omega))
  have := hs i (ns.length - 1) hi (by omega) (by omega)
  omega
theorem back_at {ns : List Int} {k : Int} (h1 : 1 ≤ k) (h2 : k ≤ ((ns.length : Nat) : Int)) : atI ns (-k) = some (ns[ns.length - k.toNat]'(by omega)) := by
  unfold atI ixN
  rw [if_neg (by omega), if_pos (by omega)]
  show ns[(-k + ((ns.length : Nat) : Int)).toNat]? = _
  rw [show (-k + ((ns.length : Nat) : Int)).toNat = ns.length - k.toNat by omega]
  exact List.getElem?_eq_getElem (by omega)
/-- of two rows of one length, one sooner than the other, ask by ask: what the later one lets, the sooner one lets -/
theorem ap_sooner {rs us : List Int} {t : Int} {q : Int × Int} (h1 : 1 ≤ q.1) (hl : rs.length = us.length) (hle : ∀ (i : Nat) (h : i < rs.length), rs[i] ≤ us[i]'(hl ▸ h)) (h : apI us t q = true) : apI rs t q = true := by
  unfold apI at h ⊢
  rw [hl]
  rw [Bool.or_eq_true] at h ⊢
  rcases h with h | h
  · exact .inl h
  · by_cases z : ((us.length : Nat) : Int) < q.1
    · exact .inl (decide_eq_true z)
    · rw [back_at h1 (by omega)] at h
      rw [back_at h1 (by omega)]
      have h := of_decide_eq_true h
      have := hle (rs.length - q.1.toNat) (by omega)
      refine .inr (decide_eq_true ?_)
      have e : us[rs.length - q.1.toNat]'(by omega) = us[us.length - q.1.toNat]'(by omega) := by
        congr 1
        omega
      omega
theorem snoc_srt {ns : List Int} (h : Srt ns) {st t : Int} (p : Past ns st t) : Srt (ns ++ [t]) := fun i j hi hj hij => by
  rw [List.length_append] at hi hj
  have hj : j < ns.length + 1 := hj
  by_cases z : j < ns.length
  · rw [List.getElem_append_left (by omega), List.getElem_append_left z]
    exact h i j (by omega) z hij
  · have e : j = ns.length := by omega
    subst e
    rw [List.getElem_append_right (Nat.le_refl _)]
    simp only [Nat.sub_self, List.getElem_cons_zero]
    by_cases z2 : i < ns.length
    · rw [List.getElem_append_left z2]
      exact past_srt h p _ (List.getElem_mem z2)
    · rw [List.getElem_append_right (by omega)]
      simp only [show i - ns.length = 0 by omega, List.getElem_cons_zero]
      exact Int.le_refl _
end KP
set_option Elab.async false
set_option maxRecDepth 100000
set_option maxHeartbeats 4000000
set_option linter.all false
/-! Ours: _law_soonest, any number of asks. -/
namespace KP
open PySem PySem.Spec PyProof.Rows L2 Gr GxR
theorem cut_last {ns : List Int} (h : 0 < ns.length) : cutI ns (some (-1)) none = [ns[ns.length - 1]'(by omega)] := by
  unfold cutI
  have e : HT.sIx ns.length 0 (some (-1)) = ns.length - 1 := by
    unfold HT.sIx
    show (if (-1 : Int) < 0 then ((-1 : Int) + ((ns.length : Nat) : Int)).toNat else _) = _
    rw [if_pos (by decide)]
    omega
  rw [e, HT.sIx_none, show ns.length - (ns.length - 1) = 1 by omega]
  rw [List.drop_eq_getElem_cons (by omega)]
  rfl
theorem sql_same {K : PySem.W.Frag} {H H' : Hp} {a : Addr} {xs : List V} (s : Same H H') (h : SqL K H a xs) : SqL K H' a xs := by
  rcases h with (h | ⟨o, h⟩) | h
  · exact .inl (.inl (s _ _ h))
  · exact .inl (.inr ⟨o, s _ _ h⟩)
  · exact .inr h
theorem sqt_same {K : PySem.W.Frag} {H H' : Hp} {a : Addr} {xs : List V} (s : Same H H') (h : SqT K H a xs) : SqT K H' a xs := by
  rcases h with (h | ⟨o, h⟩) | h
  · exact .inl (.inl (s _ _ h))
  · exact .inl (.inr ⟨o, s _ _ h⟩)
  · exact .inr h
def spSoon (K : PySem.W.Frag) : Sp := fun vs H Q _ => ∃ (lv hv : V) (r : Addr) (n st : Int) (ps : List (Int × Int)) (hs ns : List Int), vs = [lv, hv, .ref r, .int n, .int st] ∧ Od H lv (.tuple ((ps.map inD).map tw)) ∧ (∀ p ∈ ps, 1 ≤ p.1 ∧ 1 ≤ p.2 ∧ p.2 ≤ 1000) ∧ Od H hv (.tuple (hs.map PyData.int)) ∧ hs.length ≤ 12 ∧ (∃ j : Nat, ∃ h : j < hs.length, hs[j] = 1) ∧ (SqL K H r (ns.map V.int) ∨ SqT K H r (ns.map V.int)) ∧ ns.length ≤ 1000 ∧ 0 ≤ n ∧ n ≤ 1000 ∧
  ∀ z ts H', Same H H' → H z = none → H' z = some (.lst (ts.map V.int)) → ts.length = n.toNat → SRow ps hs ns st ts → Q (.ref z) H'
section
variable {P : Program} {w : World} {K : PySem.W.Frag} {mg : Str → Option Value} {base : Heap}
theorem sc_soon : FnScope ["_law_pairs", "_law_clock", "_law_row", "_law_number", "_law_start", "_law_line", "_law_turn", "_law_time", "_law_pair", "_law_step"] ["_law_pairs", "_law_clock", "_law_row", "_law_number", "_law_start"] (defScope s_l_soonest) := ⟨rfl, rfl, rfl, by decide +kernel, rfl, by decide +kernel, by decide +kernel⟩
theorem ok_soon (T : D K mg) : FnOk P w K mg base CX0 2 T.f_l_soonest T.d_l_soonest ["_law_pairs", "_law_clock", "_law_row", "_law_number", "_law_start"] (spSoon K) := by
  refine T.U_l_soonest.ok sc_soon (fun vs H Q E h => ?_) (fun cdv A outer s H vs Q E hr h => ?_)
  · obtain ⟨lv, hv, r, n, st, ps, hs, ns, rfl, _⟩ := h
    rfl
  · obtain ⟨lv, hv, r, nn, st, ps, hs, ns, rfl, hL, hp, hH, h12, ⟨j1, hj1, hj2⟩, er, hn, n0, n1, k⟩ := h
    have nd := sc_soon.nd
    have mz : 5000 ≤ sizeLine := by decide
    refine ⟨_, pss_cons (ps_set (i := 5) nd rfl (.inl rfl) (pe_callTy call_list_of (by rfl) T.list (by decide +kernel) (pa_cons (pv 2) pa_nil)))
      (pss_cons (ps_for PassesOwn.never rfl (pi_range1 rfl T.range (pa_cons (pv 3) pa_nil)) (pg_name (i := 6) nd rfl (.inl rfl))
        (pss_cons (ps_set (i := 7) nd rfl (.inl rfl) (pe_callB (cr_max rfl) (by rfl) T.max (by decide +kernel) (pa_cons (pe_op op_cat (pe_lst (pa_cons (pv 4) pa_nil)) (pe_slice sl_list (pv 5) (po_some (pe_un un_neg pe_int)) po_none)) pa_nil)))
        (pss_cons (ps_for PassesOwn.never rfl (pi_tup (pv 0)) (pg_name (i := 8) nd rfl (.inl rfl))
          (pss_one (ps_if (pt_cmpR op_ge (pe_callB call_len_seq (by rfl) T.len PySem.boot_len (pa_cons (pv 5) pa_nil)) (pe_ix ix_tup (pv 8) pe_int (fun _ _ => rfl)) (nomark _))
            (pss_one (ps_set (i := 7) nd rfl (.inl rfl) (pe_callB (call_max2 rfl) (by rfl) T.max boot_max (pa_cons (pv 7) (pa_cons (pe_op op_add (pe_ix ix_list (pv 5) (pe_op op_sub (pe_callB call_len_seq (by rfl) T.len PySem.boot_len (pa_cons (pv 5) pa_nil)) (pe_ix ix_tup (pv 8) pe_int (fun _ _ => rfl))) (fun _ _ => rfl)) (pe_ix ix_tup (pv 8) pe_int (fun _ _ => rfl))) pa_nil)))))
            (pss_nil))))
        (pss_cons (ps_for PassesOwn.never rfl (pi_range1 rfl T.range (pa_cons (pe_callB call_len_seq (by rfl) T.len PySem.boot_len (pa_cons (pv 1) pa_nil)) pa_nil)) (pg_name (i := 9) nd rfl (.inl rfl))
          (pss_one (ps_if (pt_not (pt_val (pe_call (ok_lopen T) hr rfl T.g_l_open T.U_l_open.kp T.b_l_open .nil pass0 (pa_cons (pv 1) (pa_cons (pv 7) pa_nil)))))
            (pss_one (ps_set (i := 7) nd rfl (.inl rfl) (pe_op op_add (pv 7) pe_int)))
            (pss_nil))))
        (pss_one (ps_expr (pe_bm PySem.F.plainAttrs_list PySem.F.slot_list_append PySem.F.type_list_append mt_append (pv 5) (pa_cons (pv 7) pa_nil))))))))
      (pss_one (ps_ret (pe_slice sl_list (pv 5) (po_some (pe_callB call_len_seq (by rfl) T.len PySem.boot_len (pa_cons (pv 2) pa_nil))) po_none)))), ?_⟩
    obtain ⟨ha, rfl, eh⟩ := od_I hH
    obtain ⟨la, ls, rfl, el, ol⟩ := od_tup hL
    have lls : ls.length = ps.length := by rw [ol.len, List.length_map, List.length_map]
    have er' : ∀ H2, Same H H2 → (SqL K H2 r (ns.map V.int) ∨ SqT K H2 r (ns.map V.int)) := fun H2 s2 => er.elim (fun h => .inl (sql_same s2 h)) (fun h => .inr (sqt_same s2 h))
    refine ⟨_, rfl, r, _, rfl, er, fun Ln hLn => gn ?_⟩
    have s1 := same_upd (o := HO.lst (ns.map V.int)) hLn
    have e1 : upd H Ln (.lst (ns.map V.int)) Ln = some (.lst ((ns ++ []).map V.int)) := by rw [upd_same, List.append_nil]
    generalize upd H Ln (.lst (ns.map V.int)) = H1 at *
    dsimp only
    refine ⟨_, rfl, nn, rfl, by omega, by omega, for_range (lo := 0) (n := _) (fun i σ H2 => Same H H2 ∧ ∃ (ts : List Int) (v6 v7 v8 v9 : Option V), H2 Ln = some (.lst ((ns ++ ts).map V.int)) ∧ σ = [some (.ref la), some (.ref ha), some (.ref r), some (.int nn), some (.int st), some (.ref Ln), v6, v7, v8, v9] ∧ ts.length = i ∧ SRow ps hs ns st ts) ⟨s1, [], none, none, none, none, e1, rfl, rfl, SRow.nil⟩ ?_ ?_⟩
    · rintro i σ H2 hi ⟨s2, ts, v6, v7, v8, v9, e2, rfl, lts, srow⟩
      have hi1 : i < 1000 := by omega
      have hrl : (ns ++ ts).length ≤ 2000 := by rw [List.length_append]; omega
      generalize hrs : ns ++ ts = rs at *
      refine ⟨_, rfl, by show 1 ≤ sizeLine; omega, fun c1 hc1 => ?_⟩
      have sa := same_upd (o := HO.lst [V.int st]) hc1
      refine ⟨_, rfl, 1, rfl, _, rfl, ?_⟩
      refine ⟨Ln, _, rfl, SqL.of (sa _ _ e2), fun c2 hc2 => ?_⟩
      rw [cut_I]
      have sb := same_upd (o := HO.lst ((cutI rs (some (-1)) none).map V.int)) hc2
      have lc : (cutI rs (some (-1)) none).length ≤ 2000 := by
        unfold cutI
        rw [List.length_take, List.length_drop]
        omega
      refine ⟨c1, c2, _, _, rfl, rfl, sb _ _ upd_same, upd_same, by rw [List.length_map]; show 1 + _ ≤ sizeLine; omega, fun c3 hc3 => ?_⟩
      have sc := same_upd (o := HO.lst ([V.int st] ++ (cutI rs (some (-1)) none).map V.int)) hc3
      refine ⟨c3, st :: cutI rs (some (-1)) none, rfl, SqL.of upd_same, Nat.succ_pos _, fun m hm hle => gn ?_⟩
      have mpast : Past rs st m := ⟨hle st List.mem_cons_self, fun x hx => hle x (List.mem_cons_of_mem _ (last_in hx))⟩
      have mleast : ∀ u, Past rs st u → m ≤ u := fun u hu => by
        rcases List.mem_cons.mp hm with e | e
        · rw [e]; exact hu.1
        · have h0 : 0 < rs.length := by
            cases hz : rs with
            | nil => rw [hz] at e; cases e
            | cons a l => exact Nat.succ_pos _
          rw [cut_last h0] at e
          rw [List.mem_singleton.mp e]
          exact hu.2 _ (last_at h0)
      have s3 := s2.trans (sa.trans (sb.trans sc))
      have e3 := sc _ _ (sb _ _ (sa _ _ e2))
      have w3 : Same H2 (upd (upd (upd H2 c1 (.lst [V.int st])) c2 (.lst ((cutI rs (some (-1)) none).map V.int))) c3 (.lst ([V.int st] ++ (cutI rs (some (-1)) none).map V.int))) := sa.trans (sb.trans sc)
      generalize upd (upd (upd H2 c1 (.lst [V.int st])) c2 (.lst ((cutI rs (some (-1)) none).map V.int))) c3 (.lst ([V.int st] ++ (cutI rs (some (-1)) none).map V.int)) = H3 at *
      clear sa sb sc hc1 hc2 hc3 e2 hm hle
      dsimp only
      refine ⟨_, rfl, la, rfl, ⟨_, SqT.of (s3 _ _ el)⟩, for_tup (K := K) (a := la) (xs := ls) (fun mm σ H5 => H5 = H3 ∧ ∃ (t : Int) (v8 : Option V), m ≤ t ∧ (∀ j (hj : j < ps.length), j < mm → apI rs t ps[j] = true) ∧ (∀ u, Past rs st u → ps.all (apI rs u) = true → t ≤ u) ∧ σ = [some (.ref la), some (.ref ha), some (.ref r), some (.int nn), some (.int st), some (.ref Ln), some (.int (0 + (i : Int))), some (.int t), v8, v9]) ⟨rfl, m, v8, Int.le_refl _, fun _ _ h => absurd h (Nat.not_lt_zero _), fun u hu _ => mleast u hu, rfl⟩ (fun mm σ H5 _ q => by rw [q.1]; exact SqT.of (s3 _ _ el)) ?_ ?_⟩
      · rintro mm x σ H5 hx ⟨rfl, t, v8, mt, hm, ht, rfl⟩
        obtain ⟨p, b, hpm, rfl, eb⟩ := pair_at ol hx
        obtain ⟨hmp, hpe⟩ := List.getElem?_eq_some_iff.mp hpm
        have hpp := hp p (List.mem_of_getElem? hpm)
        have eb3 := s3 _ _ eb
        refine ifop ?_
        refine ⟨_, rfl, Ln, _, rfl, .inl (SqL.of e3), _, rfl, b, _, _, _, rfl, rfl, SqT.of eb3, rfl, _, _, rfl, rfl, _, rfl, ite2 (fun h => ?_) (fun h => ?_)⟩
        · have h := of_decide_eq_true h
          rw [List.length_map] at h
          obtain ⟨x, hx⟩ := atI_some (ns := rs) hpp.1 (by omega)
          have hb := atI_back hpp.1 h hx
          have hbV := atI_mapV hb
          refine ⟨_, rfl, _, rfl, _, rfl, Ln, _, rfl, .inl (SqL.of e3), _, rfl, b, _, _, _, rfl, rfl, SqT.of eb3, rfl, _, _, rfl, rfl, Ln, _, _, V.int x, rfl, rfl, SqL.of e3, by rw [List.length_map]; exact hbV, _, rfl, b, _, _, _, rfl, rfl, SqT.of eb3, rfl, _, _, rfl, rfl, _, _, rfl, gn ?_⟩
          have hap : ∀ u, x + p.2 ≤ u → apI rs u p = true := fun u hu => by
            unfold apI
            rw [hx, Bool.or_eq_true]
            exact .inr (decide_eq_true (by omega))
          have hmx : t ≤ (if x + p.2 > t then x + p.2 else t) ∧ x + p.2 ≤ (if x + p.2 > t then x + p.2 else t) := by
            split <;> omega
          refine ⟨rfl, _, _, Int.le_trans mt hmx.1, fun j hj hjm => ?_, fun u hu ha => ?_, rfl⟩
          · by_cases z : j = mm
            · subst z
              rw [hpe]
              exact hap _ hmx.2
            · exact ap_mono (hm j hj (by omega)) hmx.1
          · have h1 := ht u hu ha
            have h2 := List.all_eq_true.mp ha p (List.mem_of_getElem? hpm)
            unfold apI at h2
            rw [hx, decide_eq_false (by omega), Bool.false_or] at h2
            have h2 := of_decide_eq_true h2
            split <;> omega
        · have h : ¬ p.1 ≤ (((rs.map V.int).length : Nat) : Int) := fun q => h (decide_eq_true q)
          rw [List.length_map] at h
          refine ⟨rfl, t, _, mt, fun j hj hjm => ?_, ht, rfl⟩
          by_cases z : j = mm
          · subst z
            rw [hpe]
            unfold apI
            rw [decide_eq_true (show ((rs.length : Nat) : Int) < p.1 by omega), Bool.true_or]
          · exact hm j hj (by omega)
      · rintro σ H5 ⟨rfl, t1, v8, mt, hm, ht, rfl⟩
        have hall : ∀ u, t1 ≤ u → ps.all (apI rs u) = true := fun u hu => List.all_eq_true.mpr fun q hq => by
          obtain ⟨j, hj, rfl⟩ := List.getElem_of_mem hq
          exact ap_mono (hm j hj (by rw [lls]; exact hj)) hu
        refine ⟨_, rfl, ha, _, rfl, .inr (SqT.of (s3 _ _ eh)), _, rfl, by omega, by rw [List.length_map]; omega, for_range (lo := 0) (n := _) (fun ss σ H6 => H6 = H5 ∧ ∃ (t : Int) (v9 : Option V), t1 ≤ t ∧ (∀ u, t1 ≤ u → openI hs u = true → t ≤ u) ∧ (openI hs t = true ∨ (t = t1 + ((ss : Nat) : Int) ∧ ∀ s', s' < ss → openI hs (t1 + ((s' : Nat) : Int)) = false)) ∧ σ = [some (.ref la), some (.ref ha), some (.ref r), some (.int nn), some (.int st), some (.ref Ln), some (.int (0 + (i : Int))), some (.int t), v8, v9]) ⟨rfl, t1, v9, Int.le_refl _, fun _ h _ => h, .inr ⟨by omega, fun _ h => absurd h (Nat.not_lt_zero _)⟩, rfl⟩ ?_ ?_⟩
        · rintro ss σ H6 hss ⟨rfl, t, v9, tt, tu, ho, rfl⟩
          refine ⟨_, rfl, _, rfl, .ref ha, hs, t, rfl, hH.same s3, by omega, _, rfl, ?_⟩
          cases h : openI hs t with
          | true => exact iteF ⟨rfl, t, _, tt, tu, .inl h, rfl⟩
          | false =>
            refine iteT ⟨_, rfl, _, _, rfl, rfl, gn ⟨rfl, t + 1, _, by omega, fun u hu hou => ?_, .inr ?_, rfl⟩⟩
            · have := tu u hu hou
              by_cases z : u = t
              · rw [z, h] at hou; cases hou
              · omega
            rcases ho with ho | ⟨et, ho⟩
            · rw [h] at ho; cases ho
            · refine ⟨by omega, fun s' hs2 => ?_⟩
              by_cases z : s' = ss
              · rw [z, ← et]; exact h
              · exact ho s' (by omega)
        · rintro σ H6 ⟨rfl, t, v9, tt, tu, ho, rfl⟩
          have hopen : openI hs t = true := by
            rcases ho with ho | ⟨_, ho⟩
            · exact ho
            · obtain ⟨s0, hs0, hs1⟩ := open_soon hj1 hj2 t1
              have := ho s0 (by
                rw [List.length_map]
                show s0 < ((hs.length : Nat) : Int).toNat
                omega)
              rw [hs1] at this
              cases this
          have hn : IsNxt ps hs rs st t := ⟨⟨Int.le_trans mpast.1 (Int.le_trans mt tt), fun x hx => Int.le_trans (mpast.2 x hx) (Int.le_trans mt tt)⟩, hopen, hall t tt, fun u hu hou ha => tu u (ht u hu ha) hou⟩
          refine ⟨_, rfl, .inl ⟨rfl, _, SqL.of e3⟩, _, rfl, Ln, _, _, rfl, rfl, e3, by rw [List.length_map]; omega, ?_⟩
          refine ⟨same_into hLn s3, ts ++ [t], _, _, _, _, ?_, rfl, by rw [List.length_append, lts]; rfl, SRow.snoc srow (hrs ▸ hn)⟩
          rw [upd_same, ← List.append_assoc, hrs, List.map_append]
          rfl
    · rintro σ H2 ⟨s2, ts, v6, v7, v8, v9, e2, rfl, lts, srow⟩
      refine ⟨_, rfl, _, rfl, r, _, rfl, er' _ s2, _, rfl, ?_⟩
      dsimp only [tNoPart]
      refine ⟨Ln, _, rfl, SqL.of e2, fun z hz => ?_⟩
      have ecut : cutV ((ns ++ ts).map V.int) (some (((ns.map V.int).length : Nat) : Int)) none = ts.map V.int := by
        rw [cutV_from, List.map_append, List.drop_left]
      rw [ecut]
      refine k z ts _ (s2.trans (same_upd hz)) ?_ upd_same lts srow
      cases e : H z with
      | none => rfl
      | some o => rw [s2 _ _ e] at hz; cases hz
end
end KP
set_option Elab.async false
set_option maxRecDepth 100000
set_option maxHeartbeats 4000000
set_option linter.all false
/-! Ours: the law's draws: the well, a pick, one of some things, one sign of a text. -/
namespace KP
open PySem PySem.Spec PyProof.Rows L2 Gr GxR
/-- a well stands at p -/
def Well (H : Hp) (p : Addr) : Prop := ∃ d m c : Int, H p = some (.lst [.int d, .int m, .int c])
/-- all is as it was but what stands at p -/
def But (H H' : Hp) (p : Addr) : Prop := ∀ b o, H b = some o → b ≠ p → H' b = some o
theorem But.trans {H H1 H2 : Hp} {p : Addr} (a : But H H1 p) (b : But H1 H2 p) : But H H2 p := fun c o h n => b c o (a c o h n) n
theorem But.refl (H : Hp) (p : Addr) : But H H p := fun _ _ h _ => h
def spPick : Sp := fun vs H Q _ => ∃ (p : Addr) (t : Int), vs = [.ref p, .int t] ∧ Well H p ∧ 0 < t ∧ t < 1073741824 ∧
  ∀ (r : Int) (H' : Hp), 0 ≤ r → r < t → Well H' p → But H H' p → Q (.int r) H'
section
variable {P : Program} {w : World} {K : PySem.W.Frag} {mg : Str → Option Value} {base : Heap}
theorem scP : FnScope ["_law_well_here", "_law_top", "_law_digit"] ["_law_well_here", "_law_top"] (defScope s_l_pick) := ⟨rfl, rfl, rfl, by decide +kernel, rfl, by decide +kernel, by decide +kernel⟩
theorem ok_l_pick (T : D K mg) : FnOk P w K mg base CX0 1 T.f_l_pick T.d_l_pick ["_law_well_here", "_law_top"] spPick := by
  refine T.U_l_pick.ok scP (fun vs H Q E h => ?_) (fun cdv A outer s H vs Q E hr h => ?_)
  · obtain ⟨p, t, rfl, _⟩ := h
    rfl
  · obtain ⟨p, t, rfl, ⟨d, m, c, hp⟩, ht, ht2, k⟩ := h
    refine ⟨_, pss_cons (ps_if (pt_cmpR op_gt (pe_ix ix_list (pv 0) pe_int (fun _ _ => rfl)) pe_int (nomark _))
        (pss_cons (ps_asg (pe_callB call_divmod (by rfl) T.divmod boot_divmod (pa_cons (pe_ix ix_list (pv 0) pe_int (fun _ _ => rfl)) (pa_cons (pv 1) pa_nil)))
          (pg_tup rfl (pgs_cons (pg_sub (pv 0) pe_int set_list) (pgs_cons (pg_name (i := 2) scP.nd rfl (.inl rfl)) pgs_nil))))
        (pss_one (ps_ret (pv 2)))) pss_nil)
      (pss_cons (ps_asg (pe_op op_add (pe_ix ix_list (pv 0) pe_int (fun _ _ => rfl)) pe_int) (pg_sub (pv 0) pe_int set_list))
      (pss_cons (ps_asg (pe_op op_mod (pe_callTy call_int1 (by rfl) T.int PyProof.Rows.boot_int (pa_cons (pe_op op_add (pe_op op_mul (pe_ix ix_list (pv 0) pe_int (fun _ _ => rfl)) pe_int)
          (pe_op op_mul pe_int (pe_ix ix_list (pv 0) pe_int (fun _ _ => rfl)))) pa_nil)) pe_int) (pg_sub (pv 0) pe_int set_list))
      (pss_one (ps_ret (pe_op op_mod (pe_callTy call_int1 (by rfl) T.int PyProof.Rows.boot_int (pa_cons (pe_op op_fdiv (pe_ix ix_list (pv 0) pe_int (fun _ _ => rfl)) pe_int) pa_nil)) (pv 1)))))), ?_⟩
    have a0 : ∀ x y z : V, atI [x, y, z] (0 : Int) = some x := fun _ _ _ => rfl
    have a1 : ∀ x y z : V, atI [x, y, z] (1 : Int) = some y := fun _ _ _ => rfl
    have a2 : ∀ x y z : V, atI [x, y, z] (2 : Int) = some z := fun _ _ _ => rfl
    refine ⟨_, rfl, p, _, 0, _, rfl, rfl, SqL.of hp, a0 _ _ _, d, 0, rfl, rfl, _, rfl, ?_⟩
    refine ite2 (fun hd => ?_) (fun hd => ?_)
    · refine ⟨_, rfl, p, _, 0, _, rfl, rfl, SqL.of hp, a0 _ _ _, _, rfl, d, t, rfl, ⟨ht, ht2⟩, fun q hq => ?_⟩
      have nq : p ≠ q := ne_of_none hp hq
      refine ⟨q, _, rfl, .inl (.inl upd_same), rfl, _, _, rfl, ?_⟩
      refine ⟨_, rfl, p, _, 0, 0, rfl, rfl, (by rw [upd_ne nq]; exact hp), rfl, ?_⟩
      refine ⟨_, _, rfl, rfl, ?_⟩
      refine ⟨_, rfl, k (d % t) _ (Int.emod_nonneg _ (by omega)) (Int.emod_lt_of_pos _ ht) ⟨d / t, m, c, upd_same⟩ fun b o e n => ?_⟩
      rw [upd_ne n, upd_ne (ne_of_none e hq)]
      exact e
    · refine ⟨_, rfl, p, _, 2, _, rfl, rfl, SqL.of hp, a2 _ _ _, c, 1, rfl, rfl, _, rfl, p, _, 2, 2, rfl, rfl, hp, rfl, ?_⟩
      refine ⟨_, rfl, p, _, 1, _, rfl, rfl, SqL.of upd_same, a1 _ _ _, m, 48271, rfl, rfl, .inr (by decide), _, rfl, p, _, 2, _, rfl, rfl, SqL.of upd_same, a2 _ _ _, 1013, c + 1, rfl, rfl, .inl (by decide), _, _, rfl, rfl, .inl ⟨_, rfl, _, _, rfl, rfl, (by show (0 : Int) < 2038074743; decide), ?_⟩⟩
      refine ⟨_, rfl, p, _, 1, 1, rfl, rfl, upd_same, rfl, ?_⟩
      refine ⟨_, rfl, p, _, 1, _, rfl, rfl, SqL.of upd_same, a1 _ _ _, _, 23, rfl, rfl, ⟨by decide, by decide⟩, .inl ⟨_, rfl, _, rfl, _, t, rfl, rfl, ht, ?_⟩⟩
      refine k _ _ (Int.emod_nonneg _ (by omega)) (Int.emod_lt_of_pos _ ht) ⟨_, _, _, upd_same⟩ fun b o e n => ?_
      rw [upd_ne n, upd_ne n]
      exact e
end
def spOne : Sp := fun vs H Q _ => ∃ (p q : Addr) (xs : List V), vs = [.ref p, .ref q] ∧ Well H p ∧ H q = some (.lst xs) ∧ q ≠ p ∧ 0 < xs.length ∧ xs.length ≤ 1000 ∧
  ∀ (i : Nat) (v : V) (H' : Hp), xs[i]? = some v → Well H' p → But H H' p → Q v H'
def spWell (K : PySem.W.Frag) : Sp := fun vs H Q _ => ∃ (a : Addr) (ns : List Int) (t : Int), vs = [.ref a, .int t] ∧ SqL K H a (ns.map V.int) ∧ 0 ≤ t ∧ ns.length ≤ 1000 ∧
  ∀ (q : Addr) (H' : Hp), H q = none → Well H' q → Same H H' → Q (.ref q) H'
section
variable {P : Program} {w : World} {K : PySem.W.Frag} {mg : Str → Option Value} {base : Heap}
theorem scO : FnScope ["_law_well_here", "_law_some"] ["_law_well_here", "_law_some"] (defScope s_l_one) := ⟨rfl, rfl, rfl, by decide +kernel, rfl, by decide +kernel, by decide +kernel⟩
theorem ok_l_one (T : D K mg) :
    FnOk P w K mg base CX0 2 T.f_l_one T.d_l_one ["_law_well_here", "_law_some"] spOne := by
  refine T.U_l_one.ok scO (fun vs H Q E h => ?_) (fun cdv A outer s H vs Q E hr h => ?_)
  · obtain ⟨p, q, xs, rfl, _⟩ := h
    rfl
  · obtain ⟨p, q, xs, rfl, hp, hq, nq, h0, h1, k⟩ := h
    refine ⟨_, pss_one (ps_ret (pe_ix ix_list (pv 1) (pe_call (ok_l_pick T) hr rfl T.g_l_pick T.U_l_pick.kp T.b_l_pick .nil pass0 (pa_cons (pv 0) (pa_cons (pe_callB call_len_seq (by rfl) T.len PySem.boot_len (pa_cons (pv 1) pa_nil)) pa_nil))) (fun _ _ => rfl))), ?_⟩
    refine ⟨_, rfl, _, rfl, _, rfl, q, xs, rfl, .inl (SqL.of hq), p, (xs.length : Int), rfl, hp, by omega, by omega, fun r H' r0 r1 hw hb => ?_⟩
    have hlt : r.toNat < xs.length := by omega
    have e : atI xs r = some (xs[r.toNat]) := by
      have := atI_nat (xs := xs) (j := r.toNat) (List.getElem?_eq_getElem hlt)
      rw [Int.toNat_of_nonneg r0] at this
      exact this
    exact ⟨q, xs, r, _, rfl, rfl, SqL.of (hb _ _ hq nq), e, k r.toNat _ H' (List.getElem?_eq_getElem hlt) hw hb⟩
theorem scW : FnScope ["_law_script", "_law_turn", "_law_mixed", "_law_each", "_law_cell", "_law_digits"] ["_law_script", "_law_turn"] (defScope s_l_well) := ⟨rfl, rfl, rfl, by decide +kernel, rfl, by decide +kernel, by decide +kernel⟩
theorem ok_l_well (T : D K mg) : FnOk P w K mg base CX0 1 T.f_l_well T.d_l_well ["_law_script", "_law_turn"] (spWell K) := by
  refine T.U_l_well.ok scW (fun vs H Q E h => ?_) (fun cdv A outer s H vs Q E hr h => ?_)
  · obtain ⟨a, ns, t, rfl, _⟩ := h
    rfl
  · obtain ⟨a, ns, t, rfl, hS, h0, hl, k⟩ := h
    refine ⟨_, pss_cons (ps_set (i := 2) scW.nd rfl (.inl rfl) (pe_op op_add pe_int (pe_op op_mul pe_int (pv 1))))
      (pss_cons (ps_for PassesOwn.never rfl (pi_list (pe_slice sl_list (pv 0) po_none (po_some pe_int))) (pg_name (i := 3) scW.nd rfl (.inl rfl))
        (pss_one (ps_set (i := 2) scW.nd rfl (.inl rfl) (pe_op op_mod (pe_callTy call_int1 (by rfl) T.int PyProof.Rows.boot_int (pa_cons
          (pe_op op_add (pe_op op_add (pe_op op_mul (pv 2) pe_int) (pe_op op_mul (pe_op op_mod (pe_callTy call_int1 (by rfl) T.int PyProof.Rows.boot_int (pa_cons (pv 3) pa_nil)) pe_int) pe_int)) pe_int) pa_nil)) pe_int))))
      (pss_cons (ps_set (i := 4) scW.nd rfl (.inl rfl) (pe_ifExp (pt_cmpR op_lt (pv 1) (pe_callB call_len_seq (by rfl) T.len PySem.boot_len (pa_cons (pv 0) pa_nil)) (nomark _))
        (pe_callTy call_int1 (by rfl) T.int PyProof.Rows.boot_int (pa_cons (pe_ix ix_list (pv 0) (pv 1) (fun _ _ => rfl)) pa_nil)) (pv 2)))
      (pss_cons (ps_set (i := 5) scW.nd rfl (.inl rfl) (pe_ifExp (pt_cmpR op_ge (pe_callB call_abs (by rfl) T.abs PyProof.Rows.boot_abs (pa_cons (pv 4) pa_nil)) (pe_op op_pow pe_int pe_int) (nomark _))
        (pe_callB call_abs (by rfl) T.abs PyProof.Rows.boot_abs (pa_cons (pv 4) pa_nil)) pe_int))
      (pss_cons (ps_set (i := 2) scW.nd rfl (.inl rfl) (pe_op op_mod (pe_callTy call_int1 (by rfl) T.int PyProof.Rows.boot_int (pa_cons
          (pe_op op_add (pe_op op_add (pe_op op_mul (pv 2) pe_int) (pe_op op_mul (pe_op op_mod (pe_callTy call_int1 (by rfl) T.int PyProof.Rows.boot_int (pa_cons (pv 4) pa_nil)) pe_int) pe_int)) pe_int) pa_nil)) pe_int))
      (pss_one (ps_ret (pe_lst (pa_cons (pv 5) (pa_cons (pv 2) (pa_cons pe_int pa_nil)))))))))), ?_⟩
    refine ⟨_, rfl, 5003, t, rfl, rfl, .inl (by decide), _, _, rfl, rfl, ?_⟩
    refine ⟨_, rfl, 9, rfl, a, _, rfl, hS, fun p0 hp0 => ?_⟩
    have s0 : Same H (upd H p0 (.lst (cutV (ns.map V.int) none (some 9)))) := fun b o e => by
      rw [upd_ne (ne_of_none e hp0)]
      exact e
    have cutInt : ∀ (i : Nat) (y : V), (cutV (ns.map V.int) none (some 9))[i]? = some y → ∃ z, y = V.int z := fun i y hy => by
      have hm := List.mem_of_mem_drop (List.mem_of_mem_take (List.mem_of_getElem? hy))
      obtain ⟨z, _, e⟩ := List.mem_map.mp hm
      exact ⟨z, e.symm⟩
    refine ⟨p0, rfl, ⟨_, SqL.of upd_same⟩, for_list (K := K) (a := p0) (xs := cutV (ns.map V.int) none (some 9))
      (fun i σ H2 => ∃ (m : Int) (v : Option V), σ = [some (.ref a), some (.int t), some (.int m), v, none, none] ∧ H2 = upd H p0 (.lst (cutV (ns.map V.int) none (some 9))))
      ⟨_, none, rfl, rfl⟩ (fun i σ H2 _ ⟨_, _, _, e⟩ => by rw [e]; exact SqL.of upd_same) ?_ ?_⟩
    · rintro i y σ H2 hi ⟨m, v, rfl, rfl⟩
      obtain ⟨z, rfl⟩ := cutInt i y hi
      have hP : (0 : Int) < 2038074743 := by decide
      exact ⟨_, rfl, m, 30011, rfl, rfl, .inr (by decide), _, rfl, .inl ⟨z, rfl, z, 2038074743, rfl, rfl, hP, _, 7001, rfl, rfl, .inr (by decide), _, _, rfl, rfl, _, 13, rfl, rfl,
        .inl ⟨_, rfl, _, 2038074743, rfl, rfl, hP, _, _, rfl, rfl⟩⟩⟩
    · rintro σ H2 ⟨m, v, rfl, rfl⟩
      have hP : (0 : Int) < 2038074743 := by decide
      refine ⟨_, rfl, _, rfl, a, _, rfl, .inl (s0.seq hS), t, _, rfl, rfl, _, rfl, ?_⟩
      refine ite2 (fun hlt => ?_) (fun _ => ?_)
      · have hlt' : t < ((ns.map V.int).length : Int) := of_decide_eq_true hlt
        rw [List.length_map] at hlt'
        have hj : t.toNat < (ns.map V.int).length := by
          rw [List.length_map]
          omega
        have e : atI (ns.map V.int) t = some (.int (ns[t.toNat]'(by omega))) := by
          have q := atI_nat (xs := ns.map V.int) (j := t.toNat) (List.getElem?_eq_getElem hj)
          rw [Int.toNat_of_nonneg h0, List.getElem_map] at q
          exact q
        refine ⟨_, rfl, _, rfl, a, _, t, _, rfl, rfl, s0.seq hS, e, .inl ⟨_, rfl, ?_⟩⟩
        refine ⟨_, rfl, _, rfl, 10, 18, rfl, rfl, ⟨by decide, by decide, by decide⟩, _, _, rfl, rfl, _, rfl, ?_⟩
        refine ite2 (fun _ => ?_) (fun _ => ?_)
        · refine ⟨_, rfl, _, rfl, ?_⟩
          exact ⟨_, rfl, _, 16807, rfl, rfl, .inr (by decide), _, rfl, .inl ⟨_, rfl, _, 2038074743, rfl, rfl, hP, _, 39373, rfl, rfl, .inr (by decide), _, _, rfl, rfl, _, 29, rfl, rfl,
            .inl ⟨_, rfl, _, 2038074743, rfl, rfl, hP, _, rfl, _, rfl, by show 3 ≤ sizeLine; decide, fun p1 hp1 => k p1 _ (s0.free hp1) ⟨_, _, _, upd_same⟩ (s0.trans fun b o e => by rw [upd_ne (ne_of_none e hp1)]; exact e)⟩⟩⟩
        · exact ⟨_, rfl, _, 16807, rfl, rfl, .inr (by decide), _, rfl, .inl ⟨_, rfl, _, 2038074743, rfl, rfl, hP, _, 39373, rfl, rfl, .inr (by decide), _, _, rfl, rfl, _, 29, rfl, rfl,
            .inl ⟨_, rfl, _, 2038074743, rfl, rfl, hP, _, rfl, _, rfl, by show 3 ≤ sizeLine; decide, fun p1 hp1 => k p1 _ (s0.free hp1) ⟨_, _, _, upd_same⟩ (s0.trans fun b o e => by rw [upd_ne (ne_of_none e hp1)]; exact e)⟩⟩⟩
      · refine ⟨_, rfl, ?_⟩
        refine ⟨_, rfl, _, rfl, 10, 18, rfl, rfl, ⟨by decide, by decide, by decide⟩, _, _, rfl, rfl, _, rfl, ?_⟩
        refine ite2 (fun _ => ?_) (fun _ => ?_)
        · refine ⟨_, rfl, _, rfl, ?_⟩
          exact ⟨_, rfl, _, 16807, rfl, rfl, .inr (by decide), _, rfl, .inl ⟨_, rfl, _, 2038074743, rfl, rfl, hP, _, 39373, rfl, rfl, .inr (by decide), _, _, rfl, rfl, _, 29, rfl, rfl,
            .inl ⟨_, rfl, _, 2038074743, rfl, rfl, hP, _, rfl, _, rfl, by show 3 ≤ sizeLine; decide, fun p1 hp1 => k p1 _ (s0.free hp1) ⟨_, _, _, upd_same⟩ (s0.trans fun b o e => by rw [upd_ne (ne_of_none e hp1)]; exact e)⟩⟩⟩
        · exact ⟨_, rfl, _, 16807, rfl, rfl, .inr (by decide), _, rfl, .inl ⟨_, rfl, _, 2038074743, rfl, rfl, hP, _, 39373, rfl, rfl, .inr (by decide), _, _, rfl, rfl, _, 29, rfl, rfl,
            .inl ⟨_, rfl, _, 2038074743, rfl, rfl, hP, _, rfl, _, rfl, by show 3 ≤ sizeLine; decide, fun p1 hp1 => k p1 _ (s0.free hp1) ⟨_, _, _, upd_same⟩ (s0.trans fun b o e => by rw [upd_ne (ne_of_none e hp1)]; exact e)⟩⟩⟩
end
end KP
set_option Elab.async false
set_option maxRecDepth 100000
set_option maxHeartbeats 4000000
set_option linter.all false
/-! Ours: drawn limits and hours. -/
namespace KP
open PySem PySem.Spec PyProof.Rows L2 Gr GxR
theorem well_ne {H : Hp} {p q : Addr} (w : Well H p) (h : H q = none) : q ≠ p := fun z => by
  obtain ⟨_, _, _, e⟩ := w
  rw [z, e] at h
  cases h
theorem Well.same {H H1 : Hp} {p : Addr} (w : Well H p) (s : Same H H1) : Well H1 p := let ⟨a, b, c, e⟩ := w; ⟨a, b, c, s _ _ e⟩
theorem Well.put {H : Hp} {p q : Addr} {o : HO} (w : Well H p) (n : q ≠ p) : Well (upd H q o) p := let ⟨a, b, c, e⟩ := w; ⟨a, b, c, (upd_ne (Ne.symm n)).trans e⟩
theorem But.same' {H H1 : Hp} {p : Addr} (s : Same H H1) : But H H1 p := fun b o e _ => s b o e
theorem But.put {H H1 : Hp} {p D : Addr} {o : HO} (b : But H H1 p) (n : H D = none) : But H (upd H1 D o) p := fun x o' e nx => by
  rw [upd_ne (ne_of_none e n)]
  exact b x o' e nx
end KP
set_option Elab.async false
set_option maxRecDepth 100000
set_option maxHeartbeats 4000000
set_option linter.all false
/-! Ours: drawn hours. -/
set_option Elab.async false
set_option maxRecDepth 100000
set_option maxHeartbeats 4000000
set_option linter.all false
/-! Ours: a drawn row of polite asks. -/
namespace KP
open PySem PySem.Spec PyProof.Rows L2 Gr GxR
def Polite (ps : List (Int × Int)) (hs ns : List Int) : Prop := ∀ j, j < ns.length → politeAt ps hs ns j = true
end KP
set_option Elab.async false
set_option maxRecDepth 100000
set_option linter.all false
/-! Ours: the first wrong ask: other orders, cuts, one more, shifts. -/
namespace KP
open PySem PySem.Spec PyProof.Rows L2 Gr GxR
theorem atI_shift (c : Int) (ns : List Int) (i : Int) : atI (ns.map (· + c)) i = (atI ns i).map (· + c) := by
  unfold atI
  rw [List.length_map]
  cases ixN ns.length i with
  | none => rfl
  | some j =>
    show (ns.map (· + c))[j]? = (ns[j]?).map (· + c)
    rw [List.getElem?_map]
theorem ap_shift (c : Int) (ns : List Int) (t : Int) (q : Int × Int) : apI (ns.map (· + c)) (t + c) q = apI ns t q := by
  unfold apI
  rw [List.length_map, atI_shift]
  cases atI ns (-q.1) with
  | none => rfl
  | some x =>
    show (_ || decide (q.2 ≤ t + c - (x + c))) = (_ || decide (q.2 ≤ t - x))
    rw [show t + c - (x + c) = t - x by omega]
end KP
set_option Elab.async false
set_option maxRecDepth 100000
set_option linter.all false
/-! Ours: right rules; shifted asks. -/
namespace KP
open PySem PySem.Spec PyProof.Rows L2 Gr GxR
structure Good (ps : List (Int × Int)) (hs : List Int) : Prop where
  l : ps.length ≤ 4
  p : ∀ p ∈ ps, 1 ≤ p.1 ∧ p.1 ≤ 6 ∧ 1 ≤ p.2 ∧ p.2 ≤ 12
  h0 : 0 < hs.length
  h1 : hs.length ≤ 12
  d : ∀ h ∈ hs, 0 ≤ h ∧ h ≤ 1
  one : ∃ j : Nat, ∃ h : j < hs.length, hs[j] = 1
theorem has_one : ∀ {hs : List Int}, (1 : Int) ∈ hs → hasOne 1 (hs.map PyData.int) = true
  | h :: l, m => by
    show ((h == 1) || hasOne 1 (l.map PyData.int)) = true
    rw [Bool.or_eq_true]
    rcases List.mem_cons.mp m with e | e
    · exact .inl (by rw [← e]; rfl)
    · exact .inr (has_one e)
theorem Good.hours {ps : List (Int × Int)} {hs : List Int} (g : Good ps hs) : hoursD (.tuple (hs.map PyData.int)) = true := by
  obtain ⟨j, hj, e⟩ := g.one
  have e1 : rowD (.tuple (hs.map PyData.int)) 1 12 = true := by
    show (decide ((1 : Int) ≤ ((hs.map PyData.int).length : Nat)) && decide ((((hs.map PyData.int).length : Nat) : Int) ≤ 12)) = true
    have := g.h0
    have := g.h1
    rw [List.length_map, Bool.and_eq_true, decide_eq_true_eq, decide_eq_true_eq]
    omega
  have e2 : (hs.map PyData.int).all (fun x => betwD x 0 1) = true := List.all_eq_true.mpr fun d hd => by
    obtain ⟨h, hh, rfl⟩ := List.mem_map.mp hd
    have := g.d h hh
    show (decide (0 ≤ h) && decide (h ≤ 1)) = true
    rw [Bool.and_eq_true, decide_eq_true_eq, decide_eq_true_eq]
    exact this
  have e3 : hasOne 1 (hs.map PyData.int) = true := has_one (e ▸ List.getElem_mem hj)
  unfold hoursD
  rw [e1, Bool.true_and]
  show ((hs.map PyData.int).all (fun x => betwD x 0 1) && hasOne 1 (hs.map PyData.int)) = true
  rw [e2, e3]
  rfl
theorem Good.rules {ps : List (Int × Int)} {hs : List Int} (g : Good ps hs) : rulesD (rulesP ps hs) = true := by
  have e1 : rowD (.tuple ((ps.map inD).map tw)) 0 4 = true := by
    show (decide ((0 : Int) ≤ (((ps.map inD).map tw).length : Nat)) && decide (((((ps.map inD).map tw).length : Nat) : Int) ≤ 4)) = true
    have := g.l
    rw [List.length_map, List.length_map, Bool.and_eq_true, decide_eq_true_eq, decide_eq_true_eq]
    omega
  have e2 : ((ps.map inD).map tw).all limD = true := List.all_eq_true.mpr fun d hd => by
    obtain ⟨q, hq, rfl⟩ := List.mem_map.mp hd
    obtain ⟨p, hp, rfl⟩ := List.mem_map.mp hq
    have := g.p p hp
    show ((decide (1 ≤ p.1) && decide (p.1 ≤ 6)) && (decide (1 ≤ p.2) && decide (p.2 ≤ 12))) = true
    simp only [Bool.and_eq_true, decide_eq_true_eq]
    omega
  have e3 : limsD (.tuple ((ps.map inD).map tw)) = true := by
    unfold limsD
    rw [e1, Bool.true_and]
    exact e2
  show (limsD (.tuple ((ps.map inD).map tw)) && hoursD (.tuple (hs.map PyData.int))) = true
  rw [e3, g.hours]
  rfl
theorem Good.right {ps : List (Int × Int)} {hs ns : List Int} (g : Good ps hs) (a : asc 0 ns) (n : ns.length ≤ 200) : Right ps hs ns := ⟨g.rules, fun p hp => (g.p p hp).1, g.h0, a, n⟩
end KP
set_option Elab.async false
set_option maxRecDepth 100000
set_option maxHeartbeats 4000000
set_option linter.all false
/-! Ours: next_open, next_ask, soonest_asks. -/
namespace KP
open PySem PySem.Spec PyProof.Rows L2 Gr GxR
theorem ix_listB {X : Cx} {s : Shared} {H : Hp} {sc : Scope} {en : Env} {fp : List Addr} : IxR (X.blk s H sc en fp) (rIxL X.K) := ix_list
theorem call_len_seqB {X : Cx} {s : Shared} {H : Hp} {sc : Scope} {en : Env} {fp : List Addr} : CallR (X.blk s H sc en fp) (.builtin "len") (fun xs H Q => ∃ p ys, xs = [V.ref p] ∧ (SqL X.K H p ys ∨ SqT X.K H p ys) ∧ Q (.int (ys.length : Nat)) H) := call_len_seq
end KP
set_option Elab.async false
set_option maxRecDepth 100000
set_option maxHeartbeats 4000000
set_option linter.all false
/-! Ours: soonest, of right arguments. -/
namespace KP
open PySem PySem.Spec PyProof.Rows L2 Gr GxR
def spCkB : Sp := fun vs H Q _ => ∃ t lo hi : Int, vs = [.int t, .int lo, .int hi] ∧ lo ≤ t ∧ t ≤ hi ∧ Q .non H
def spAmt : Sp := fun vs H Q _ => ∃ t : Int, vs = [.int t] ∧ 0 ≤ t ∧ t ≤ 100 ∧ Q .non H
section
variable {P : Program} {w : World} {K : PySem.W.Frag} {mg : Str → Option Value} {base : Heap}
theorem sc_ckb : FnScope ["given", "low", "high"] ["given", "low", "high"] (defScope s_check_between) := ⟨rfl, rfl, rfl, by decide +kernel, rfl, by decide +kernel, by decide +kernel⟩
theorem ok_ckb (T : D K mg) : FnOk P w K mg base CX0 3 T.f_check_between T.d_check_between ["given", "low", "high"] spCkB := by
  refine T.U_check_between.ok sc_ckb (fun vs H Q E h => ?_) (fun cdv A outer s H vs Q E hr h => ?_)
  · obtain ⟨t, lo, hi, rfl, _⟩ := h
    rfl
  · obtain ⟨t, lo, hi, rfl, h1, h2, k⟩ := h
    refine ⟨_, pss_one (ps_if (pt_not (pt_val (pe_call (ok_betw T) hr rfl T.g_is_between T.U_is_between.kp T.b_is_between .nil pass0 (pa_cons (pv 0) (pa_cons (pv 1) (pa_cons (pv 2) pa_nil))))))
        (pss_one (ps_never))
        (pss_nil)), ?_⟩
    refine ⟨_, rfl, _, rfl, _, rfl, .int t, .int t, lo, hi, rfl, .int t, _, rfl, ?_⟩
    have e : betwD (.int t) lo hi = true := by
      show (decide (lo ≤ t) && decide (t ≤ hi)) = true
      rw [decide_eq_true h1, decide_eq_true h2]
      rfl
    rw [e]
    exact k
theorem sc_amt : FnScope ["given"] ["given"] (defScope s_check_amount) := ⟨rfl, rfl, rfl, by decide +kernel, rfl, by decide +kernel, by decide +kernel⟩
theorem ok_amt (T : D K mg) : FnOk P w K mg base CX0 4 T.f_check_amount T.d_check_amount ["given"] spAmt := by
  refine T.U_check_amount.ok sc_amt (fun vs H Q E h => ?_) (fun cdv A outer s H vs Q E hr h => ?_)
  · obtain ⟨t, rfl, _⟩ := h
    rfl
  · obtain ⟨t, rfl, h1, h2, k⟩ := h
    refine ⟨_, pss_one (ps_expr (pe_call (ok_ckb T) hr rfl T.g_check_between T.U_check_between.kp T.b_check_between .nil pass0 (pa_cons (pv 0) (pa_cons pe_int (pa_cons (pe_glob (v := .int 100) rfl T.g_MOST_MOMENTS ⟨_, rfl⟩) pa_nil))))), ?_⟩
    exact ⟨_, rfl, t, 0, 100, rfl, h1, h2, k⟩
end
end KP
set_option Elab.async false
set_option maxRecDepth 100000
set_option maxHeartbeats 4000000
set_option linter.all false
/-! Ours: room, has_room, shifted by one moment. -/
namespace KP
open PySem PySem.Spec PyProof.Rows L2 Gr GxR
def leftP (cs : List Int) (p : Int × Int) : Int := p.1 - (cs.take (p.2 - 1).toNat).sum
def roomC (ps : List (Int × Int)) (hs : List Int) (t : Int) (cs : List Int) : V := if openI hs t = true then minV (ps.map (leftP cs)) else .int 0
def hasB : V → Int → Bool
  | .int r, m => decide (m ≤ r)
  | _, _ => true
def spRoom : Sp := fun vs H Q _ => ∃ (rv cv : V) (t : Int) (ps : List (Int × Int)) (hs cs : List Int), vs = [rv, .int t, cv] ∧ Od H rv (rulesP ps hs) ∧ Good ps hs ∧ Od H cv (.tuple (cs.map PyData.int)) ∧ ∀ H', Same H H' → Q (roomC ps hs t cs) H'
def spHas : Sp := fun vs H Q _ => ∃ (rv cv : V) (t m : Int) (ps : List (Int × Int)) (hs cs : List Int), vs = [rv, .int t, cv, .int m] ∧ Od H rv (rulesP ps hs) ∧ Good ps hs ∧ Od H cv (.tuple (cs.map PyData.int)) ∧ ∀ H', Same H H' → Q (.bl (hasB (roomC ps hs t cs) m)) H'
section
variable {P : Program} {w : World} {K : PySem.W.Frag} {mg : Str → Option Value} {base : Heap}
theorem sc_room : FnScope ["rules", "moment", "counts", "limits", "hours", "most", "wide"] ["rules", "moment", "counts"] (defScope s_room) := ⟨rfl, rfl, rfl, by decide +kernel, rfl, by decide +kernel, by decide +kernel⟩
theorem ok_room (T : D K mg) : FnOk P w K mg base CX0 2 T.f_room T.d_room ["rules", "moment", "counts"] spRoom := by
  refine T.U_room.ok sc_room (fun vs H Q E h => ?_) (fun cdv A outer s H vs Q E hr h => ?_)
  · obtain ⟨rv, cv, t, ps, hs, cs, rfl, _⟩ := h
    rfl
  · obtain ⟨rv, cv, t, ps, hs, cs, rfl, hR, g, hC, k⟩ := h
    have nd := sc_room.nd
    have mz : 5000 ≤ sizeLine := by decide
    refine ⟨_, pss_cons (ps_asg (pv 0) (pg_tup rfl (pgs_cons (pg_name (i := 3) nd rfl (.inl rfl)) (pgs_cons (pg_name (i := 4) nd rfl (.inl rfl)) pgs_nil))))
      (pss_cons (ps_if (pt_not (pt_val (pe_call (ok_opens T) hr rfl T.g_opens T.U_opens.kp T.b_opens .nil pass0 (pa_cons (pv 4) (pa_cons (pv 1) pa_nil)))))
        (pss_one (ps_ret pe_int))
        (pss_nil))
      (pss_one (ps_ret (pe_callBK (call_minDef hr.hd hr.units) (by rfl) T.min (by decide +kernel) (pa_cons (pe_lc (own := [("most", 5), ("wide", 6)]) (g := gTup _ 2 (gCons (gName 5) (gCons (gName 6) gNil))) (tt := tYes) rfl nd (pi_tup (pv 3)) (blkOk_by (N := ["rules", "moment", "counts", "limits", "hours", "most", "wide"]) (sc := defScope s_room) (by decide +kernel)) (fun _ _ _ _ _ => pg_tup rfl (pgs_cons (pg_name (i := 5) nd rfl (.inl rfl)) (pgs_cons (pg_name (i := 6) nd rfl (.inl rfl)) pgs_nil))) (fun _ _ _ _ _ => pts_nil) (fun _ _ _ _ _ => pe_op op_sub (pv 5) (pe_callB (cr_sumTB hr.hd) (by rfl) T.sum (by decide +kernel) (pa_cons (pe_slice KP.sl_tupAB (pv 2) po_none (po_some (pe_op op_sub (pv 6) pe_int))) pa_nil)))) pa_nil) (pk_cons pe_non pk_nil))))), ?_⟩
    obtain ⟨ra, rl, rfl, er, orl⟩ := od_tup hR
    cases orl with
    | cons o1 o2 =>
      rename_i lv rest
      cases o2 with
      | cons o2 o3 =>
        rename_i hv rest
        cases o3
        obtain ⟨la, ls, rfl, el, ol⟩ := od_tup o1
        obtain ⟨ca, rfl, ec⟩ := od_I hC
        have lls : ls.length = ps.length := by rw [ol.len, List.length_map, List.length_map]
        refine ⟨_, rfl, ra, _, rfl, SqT.of er, rfl, _, _, rfl, _, _, rfl, rfl, ?_⟩
        refine ⟨_, rfl, _, rfl, hv, hs, t, rfl, o2, g.h0, _, rfl, ?_⟩
        have q := k
        unfold roomC at q
        cases hop : openI hs t with
        | false =>
          rw [hop] at q
          exact iteT (q H (.refl H))
        | true =>
          rw [hop, if_pos rfl] at q
          refine iteF (next_of ?_)
          dsimp only
          refine ⟨_, rfl, la, rfl, ⟨_, SqT.of el⟩, fun D hD => lc_tup (K := K) (a := la) (xs := ls) (fun i Hx => Same H Hx ∧ Hx D = some (.lst (((ps.take i).map (leftP cs)).map V.int))) ⟨same_upd hD, upd_same⟩ (fun i Hx _ q => SqT.of (q.1 _ _ el)) ?_ ?_⟩
          · rintro i x Hx hx ⟨sx, ex⟩
            obtain ⟨p, b, hpm, rfl, eb⟩ := pair_at ol hx
            have hpp := g.p p (List.mem_of_getElem? hpm)
            have hip := (List.getElem?_eq_some_iff.mp hpm).1
            refine ⟨b, _, rfl, SqT.of (sx _ _ eb), rfl, _, _, rfl, _, _, rfl, rfl, rfl, ?_⟩
            unfold tYes
            dsimp only
            rw [if_pos rfl]
            refine ⟨_, rfl, _, rfl, ?_⟩
            dsimp only [tNoPart]
            refine ⟨_, rfl, _, _, rfl, rfl, _, rfl, slice_tt (by omega) (sx _ _ ec) fun p1 Hz sz e1 => ?_⟩
            rw [← List.map_take] at e1
            refine ⟨p1, _, rfl, SqT.of e1, _, _, rfl, rfl, _, sz _ _ ex, by rw [List.length_map, List.length_map, List.length_take]; have := g.l; omega, same_into hD (sx.trans sz), ?_⟩
            rw [upd_same, List.take_add_one, hpm, List.map_append, List.map_append]
            rfl
          · rintro Hx ⟨sx, ex⟩
            rw [lls, List.take_length] at ex
            exact ⟨D, _, 0, rfl, rfl, SqL.of ex, q Hx sx⟩
theorem sc_has : FnScope ["rules", "moment", "counts", "many", "left"] ["rules", "moment", "counts", "many"] (defScope s_has_room) := ⟨rfl, rfl, rfl, by decide +kernel, rfl, by decide +kernel, by decide +kernel⟩
theorem minV_or (l : List Int) : minV l = .non ∨ ∃ r, minV l = .int r := by
  cases l with
  | nil => exact .inl rfl
  | cons a l => exact .inr ⟨_, rfl⟩
theorem room_or (ps : List (Int × Int)) (hs : List Int) (t : Int) (cs : List Int) : roomC ps hs t cs = .non ∨ ∃ r, roomC ps hs t cs = .int r := by
  unfold roomC
  split
  · exact minV_or _
  · exact .inr ⟨0, rfl⟩
theorem ok_has (T : D K mg) : FnOk P w K mg base CX0 3 T.f_has_room T.d_has_room ["rules", "moment", "counts", "many"] spHas := by
  refine T.U_has_room.ok sc_has (fun vs H Q E h => ?_) (fun cdv A outer s H vs Q E hr h => ?_)
  · obtain ⟨rv, cv, t, m, ps, hs, cs, rfl, _⟩ := h
    rfl
  · obtain ⟨rv, cv, t, m, ps, hs, cs, rfl, hR, g, hC, k⟩ := h
    have nd := sc_has.nd
    refine ⟨_, pss_cons (ps_set (i := 4) nd rfl (.inl rfl) (pe_call (ok_room T) hr rfl T.g_room T.U_room.kp T.b_room .nil pass0 (pa_cons (pv 0) (pa_cons (pv 1) (pa_cons (pv 2) pa_nil)))))
      (pss_one (ps_ret (pe_or (pe_cmpR op_isN (pv 4) pe_non (nomark _)) (pe_one (pe_cmpR op_le (pv 3) (pv 4) (nomark _)))))), ?_⟩
    refine ⟨_, rfl, _, rfl, _, rfl, rv, cv, t, ps, hs, cs, rfl, hR, g, hC, fun H1 s1 => gn ?_⟩
    have q := k H1 s1
    rcases room_or ps hs t cs with e | ⟨r, e⟩
    · rw [e] at q ⊢
      dsimp only
      refine ⟨_, rfl, rfl, _, rfl, iteT ?_⟩
      exact q
    · rw [e] at q ⊢
      dsimp only
      refine ⟨_, rfl, rfl, _, rfl, iteF ⟨_, rfl, _, rfl, _, _, rfl, rfl, ?_⟩⟩
      exact q
end
end KP
set_option Elab.async false
set_option maxRecDepth 100000
set_option maxHeartbeats 4000000
set_option linter.all false
/-! Ours: check_place, most_now, lets, wait, of right arguments. -/
namespace KP
open PySem PySem.Spec PyProof.Rows L2 Gr GxR
theorem prs (ps : List (Int × Int)) : ps.map prD = (ps.map inD).map tw := by
  rw [List.map_map]
  rfl
theorem Good.lim {ps : List (Int × Int)} {hs : List Int} (g : Good ps hs) : Lim ps := ⟨g.l, g.p⟩
end KP
set_option Elab.async false
set_option maxRecDepth 100000
set_option maxHeartbeats 4000000
set_option linter.all false
/-! Ours: _law_may of any number. -/
namespace KP
open PySem PySem.Spec PyProof.Rows L2 Gr GxR
def mayI (ps : List (Int × Int)) (hs ns : List Int) (t m : Int) : Bool := decide (m ≤ 0) || (openI hs t && ps.all fun p => decide (((above (t - p.2) ns : Nat) : Int) + m ≤ p.1))
def spLMay : Sp := fun vs H Q _ => ∃ (lv hv : V) (a : Addr) (t m : Int) (ps : List (Int × Int)) (hs ns : List Int), vs = [lv, hv, .ref a, .int t, .int m] ∧ Od H lv (.tuple ((ps.map inD).map tw)) ∧ Od H hv (.tuple (hs.map PyData.int)) ∧ 0 < hs.length ∧ H a = some (.lst (ns.map V.int)) ∧ ns.length ≤ 1000 ∧ 0 ≤ m ∧ ∀ H', Same H H' → Q (.bl (mayI ps hs ns t m)) H'
section
variable {P : Program} {w : World} {K : PySem.W.Frag} {mg : Str → Option Value} {base : Heap}
theorem sc_lmay : FnScope ["_law_pairs", "_law_clock", "_law_row", "_law_time", "_law_number", "_law_pair", "_law_other"] ["_law_pairs", "_law_clock", "_law_row", "_law_time", "_law_number"] (defScope s_l_may) := ⟨rfl, rfl, rfl, by decide +kernel, rfl, by decide +kernel, by decide +kernel⟩
theorem ok_lmay (T : D K mg) : FnOk P w K mg base CX0 2 T.f_l_may T.d_l_may ["_law_pairs", "_law_clock", "_law_row", "_law_time", "_law_number"] spLMay := by
  refine T.U_l_may.ok sc_lmay (fun vs H Q E h => ?_) (fun cdv A outer s H vs Q E hr h => ?_)
  · obtain ⟨lv, hv, a, t, m, ps, hs, ns, rfl, _⟩ := h
    rfl
  · obtain ⟨lv, hv, a, t, m, ps, hs, ns, rfl, hL, hH, h0, ea, hn, m0, k⟩ := h
    have nd := sc_lmay.nd
    have mz : 5000 ≤ sizeLine := by decide
    refine ⟨_, pss_cons (ps_if (PW.pt (pw_and (pt_cmpR op_gt (pv 4) pe_int (nomark _)) (pw_and1 (pt_not (pt_val (pe_call (ok_lopen T) hr rfl T.g_l_open T.U_l_open.kp T.b_l_open .nil pass0 (pa_cons (pv 1) (pa_cons (pv 3) pa_nil))))))))
        (pss_one (ps_ret pe_bl))
        (pss_nil))
      (pss_cons (ps_for PassesOwn.never rfl (pi_tup (pv 0)) (pg_name (i := 5) nd rfl (.inr rfl))
        (pss_one (ps_if (PW.pt (pw_and (pt_cmpR op_gt (pv 4) pe_int (nomark _)) (pw_and1 (pt_cmpR op_gt (pe_op op_add (pe_callB call_len_seq (by rfl) T.len PySem.boot_len (pa_cons (pe_lc (own := [("_law_other", 6)]) (g := gName 6) rfl nd (pi_list (pv 2)) (blkOk_by (N := ["_law_pairs", "_law_clock", "_law_row", "_law_time", "_law_number", "_law_pair", "_law_other"]) (sc := defScope s_l_may) (by decide +kernel)) (fun _ _ _ _ _ => pg_name (i := 6) nd rfl (.inl rfl)) (fun _ _ _ _ _ => (pts_one (pt_cmpR op_gt (pv 6) (pe_op op_sub (pv 3) (pe_ix ix_tupB (pv 5) pe_int (fun _ _ => rfl))) (nomark _)))) (fun _ _ _ _ _ => pv 6)) pa_nil)) (pv 4)) (pe_ix ix_tup (pv 5) pe_int (fun _ _ => rfl)) (nomark _)))))
          (pss_one (ps_ret pe_bl))
          (pss_nil))))
      (pss_one (ps_ret pe_bl))), ?_⟩
    obtain ⟨la, ls, rfl, el, ol⟩ := od_tup hL
    have lls : ls.length = ps.length := by rw [ol.len, List.length_map, List.length_map]
    refine ⟨_, rfl, _, _, rfl, rfl, _, rfl, ?_⟩
    dsimp only
    by_cases hm0 : 0 < m
    · rw [if_pos (decide_eq_true hm0)]
      have em : mayI ps hs ns t m = (openI hs t && ps.all fun p => decide (((above (t - p.2) ns : Nat) : Int) + m ≤ p.1)) := by
        unfold mayI
        rw [decide_eq_false (by omega), Bool.false_or]
      rw [em] at k
      refine ⟨_, rfl, _, rfl, hv, hs, t, rfl, hH, h0, _, rfl, ?_⟩
      cases ho : openI hs t with
      | false =>
        have q := k H (.refl H)
        rw [ho, Bool.false_and] at q
        exact iteT q
      | true =>
        refine iteF (next_of ?_)
        dsimp only
        refine ⟨_, rfl, la, rfl, ⟨_, SqT.of el⟩, for_tup (K := K) (a := la) (xs := ls) (fun j σ H5 => Same H H5 ∧ (∀ mm (hm : mm < ps.length), mm < j → ((above (t - ps[mm].2) ns : Nat) : Int) + m ≤ ps[mm].1) ∧ ∃ (v5 v6 : Option V), σ = [some (.ref la), some hv, some (.ref a), some (.int t), some (.int m), v5, v6]) ⟨.refl _, fun _ _ h => absurd h (Nat.not_lt_zero _), _, _, rfl⟩ (fun j σ H5 _ q => SqT.of (q.1 _ _ el)) ?_ ?_⟩
        · rintro i x σ H5 hx ⟨s5, hm, v5, v6, rfl⟩
          obtain ⟨p, b, hpm, rfl, eb⟩ := pair_at ol hx
          obtain ⟨hmp, hpe⟩ := List.getElem?_eq_some_iff.mp hpm
          refine gn ?_
          refine ⟨_, rfl, _, _, rfl, rfl, _, rfl, ?_⟩
          dsimp only
          rw [if_pos (decide_eq_true hm0)]
          refine ⟨_, rfl, a, rfl, ⟨_, SqL.of (s5 _ _ ea)⟩, fun D hD => lc_list (K := K) (a := a) (xs := ns.map V.int) (fun j Hx => Same H5 Hx ∧ Hx D = some (.lst (((ns.take j).filter (fun x => decide (t - p.2 < x))).map V.int))) ⟨same_upd hD, upd_same⟩ (fun j Hx _ q => SqL.of (q.1 _ _ (s5 _ _ ea))) ?_ ?_⟩
          · rintro j x Hx hx ⟨sx, ex⟩
            rw [List.getElem?_map] at hx
            obtain ⟨n, hn', rfl⟩ := Option.map_eq_some_iff.mp hx
            refine ⟨rfl, ?_⟩
            have et : ns.take (j + 1) = ns.take j ++ [n] := by rw [List.take_add_one, hn']; rfl
            refine ⟨_, rfl, _, rfl, _, rfl, b, _, _, _, rfl, rfl, SqT.of (sx _ _ (s5 _ _ eb)), rfl, _, _, rfl, rfl, _, _, rfl, rfl, _, rfl, ite2 (fun h => ?_) (fun h => ?_)⟩
            · refine ⟨_, rfl, _, ex, ?_, same_into hD sx, ?_⟩
              · rw [List.length_map]
                have := List.length_filter_le (fun x => decide (t - p.2 < x)) (ns.take j)
                rw [List.length_take] at this
                omega
              · rw [upd_same, et, List.filter_append, List.map_append, List.filter_cons_of_pos (by exact h)]
                rfl
            · refine ⟨sx, ?_⟩
              rw [ex, et, List.filter_append, List.filter_cons_of_neg (by exact h), List.filter_nil, List.append_nil]
          · rintro Hx ⟨sx, ex⟩
            rw [List.length_map, List.take_of_length_le (Nat.le_refl _)] at ex
            have s0x := s5.trans sx
            have ec : ((((ns.filter (fun x => decide (t - p.2 < x))).map V.int).length : Nat) : Int) = ((above (t - p.2) ns : Nat) : Int) := by
              rw [List.length_map]
              unfold above
              rw [List.countP_eq_length_filter]
            refine ⟨D, _, rfl, .inl (SqL.of ex), _, rfl, _, _, rfl, rfl, _, rfl, b, _, _, _, rfl, rfl, SqT.of (s0x _ _ eb), rfl, _, _, rfl, rfl, _, rfl, ite2 (fun h => ?_) (fun h => ?_)⟩
            · have h := of_decide_eq_true h
              have q := k Hx s0x
              have e2 : (ps.all fun p => decide (((above (t - p.2) ns : Nat) : Int) + m ≤ p.1)) = false := by
                rw [Bool.eq_false_iff]
                intro z
                have := of_decide_eq_true (List.all_eq_true.mp z p (List.mem_of_getElem? hpm))
                omega
              rw [ho, e2] at q
              exact q
            · have h : ¬ p.1 < ((above (t - p.2) ns : Nat) : Int) + m := fun q => h (decide_eq_true (by rw [ec]; exact q))
              refine ⟨s5.trans sx, fun mm hmm hml => ?_, _, _, rfl⟩
              by_cases zz : mm = i
              · subst zz
                rw [hpe]
                omega
              · exact hm mm hmm (by omega)
        · rintro σ H5 ⟨s5, hm, v5, v6, rfl⟩
          have q := k H5 s5
          have e2 : (ps.all fun p => decide (((above (t - p.2) ns : Nat) : Int) + m ≤ p.1)) = true := List.all_eq_true.mpr fun q hq => by
            obtain ⟨mm, hmm, rfl⟩ := List.getElem_of_mem hq
            exact decide_eq_true (hm mm hmm (by rw [lls]; exact hmm))
          rw [ho, e2] at q
          exact q
    · have em : mayI ps hs ns t m = true := by
        unfold mayI
        rw [decide_eq_true (by omega), Bool.true_or]
      rw [em] at k
      rw [if_neg (fun z => hm0 (of_decide_eq_true z))]
      refine iteF (next_of ?_)
      dsimp only
      refine ⟨_, rfl, la, rfl, ⟨_, SqT.of el⟩, for_tup (K := K) (a := la) (xs := ls) (fun j σ H5 => Same H H5 ∧ ∃ (v5 v6 : Option V), σ = [some (.ref la), some hv, some (.ref a), some (.int t), some (.int m), v5, v6]) ⟨.refl _, _, _, rfl⟩ (fun j σ H5 _ q => SqT.of (q.1 _ _ el)) ?_ ?_⟩
      · rintro i x σ H5 hx ⟨s5, v5, v6, rfl⟩
        refine gn ?_
        refine ⟨_, rfl, _, _, rfl, rfl, _, rfl, ?_⟩
        dsimp only
        rw [if_neg (fun z => hm0 (of_decide_eq_true z))]
        exact iteF ⟨s5, _, _, rfl⟩
      · rintro σ H5 ⟨s5, v5, v6, rfl⟩
        exact k H5 s5
end
end KP
set_option Elab.async false
set_option maxRecDepth 100000
set_option maxHeartbeats 4000000
set_option linter.all false
/-! Ours: _law_greatest, _law_wait. -/
set_option Elab.async false
set_option maxRecDepth 100000
set_option linter.all false
/-! Ours: counts of a row at a moment: the mathematics. -/
namespace KP
open PySem PySem.Spec PyProof.Rows L2 Gr GxR
/-- the counts of the last L moments before t, the newest first -/
def cntL (ns : List Int) (t : Int) (L : Nat) : List Int := (List.range L).map fun (j : Nat) => ((ns.count (t - 1 - (j : Int)) : Nat) : Int)
theorem cntL_len (ns : List Int) (t : Int) (L : Nat) : (cntL ns t L).length = L := by
  unfold cntL
  rw [List.length_map, List.length_range]
theorem cntL_sum {ns : List Int} {t : Int} {L : Nat} (h : ∀ x ∈ ns, x < t) : ∀ m : Nat, m ≤ L → ((cntL ns t L).take m).sum = ((above (t - 1 - (m : Int)) ns : Nat) : Int)
  | 0, _ => by
    rw [above_none fun x hx => by have := h x hx; omega]
    rfl
  | m + 1, hm => by
    have ih := cntL_sum (L := L) h m (by omega)
    have e1 : above (t - 1 - ((m + 1 : Nat) : Int)) ns = above (t - 1 - (m : Int)) ns + ns.count (t - 1 - (m : Int)) := by
      rw [← above_step, show t - 1 - ((m + 1 : Nat) : Int) = t - 1 - (m : Int) - 1 by omega]
    have hl : m < (cntL ns t L).length := by rw [cntL_len]; omega
    rw [e1, List.take_add_one, List.getElem?_eq_getElem hl]
    have e2 : (cntL ns t L)[m] = ((ns.count (t - 1 - (m : Int)) : Nat) : Int) := by simp [cntL]
    rw [e2]
    simp only [Option.toList_some, List.sum_append, List.sum_cons, List.sum_nil]
    omega
theorem left_above {ns : List Int} {t : Int} {L : Nat} {p : Int × Int} (h : ∀ x ∈ ns, x < t) (h1 : 1 ≤ p.2) (h2 : p.2 - 1 ≤ L) : leftP (cntL ns t L) p = p.1 - ((above (t - p.2) ns : Nat) : Int) := by
  unfold leftP
  rw [cntL_sum h _ (by omega), show t - 1 - (((p.2 - 1).toNat : Nat) : Int) = t - p.2 by omega]
theorem minV_has : ∀ {l : List Int} {m : Int}, hasB (minV l) m = l.all fun x => decide (m ≤ x)
  | [], m => rfl
  | a :: l, m => by
    show decide (m ≤ l.foldl min a) = _
    have e : ∀ (l : List Int) (a : Int), decide (m ≤ l.foldl min a) = (decide (m ≤ a) && l.all fun x => decide (m ≤ x)) := fun l => by
      induction l with
      | nil => exact fun a => (Bool.and_true _).symm
      | cons b l ih =>
        intro a
        show decide (m ≤ l.foldl min (min a b)) = _
        rw [ih, List.all_cons, ← Bool.and_assoc]
        congr 1
        rw [Bool.eq_iff_iff]
        simp only [Bool.and_eq_true, decide_eq_true_eq]
        omega
    rw [e, List.all_cons]
/-- what the counts let is what the row lets -/
theorem has_may {ps : List (Int × Int)} {hs ns : List Int} {t m : Int} {L : Nat} (h : ∀ x ∈ ns, x < t) (hp : ∀ p ∈ ps, 1 ≤ p.2 ∧ p.2 - 1 ≤ L) (hf : ∀ p ∈ ps, ((above (t - p.2) ns : Nat) : Int) ≤ p.1) (m0 : 0 ≤ m) : hasB (roomC ps hs t (cntL ns t L)) m = mayI ps hs ns t m := by
  unfold roomC mayI
  cases ho : openI hs t with
  | false =>
    rw [if_neg Bool.false_ne_true, Bool.false_and, Bool.or_false]
    rfl
  | true =>
    rw [if_pos rfl, minV_has, Bool.true_and, List.all_map, Bool.eq_iff_iff, Bool.or_eq_true, List.all_eq_true, List.all_eq_true]
    simp only [Function.comp, decide_eq_true_eq]
    constructor
    · intro z
      refine .inr fun p hp' => ?_
      have := z p hp'
      rw [left_above h (hp p hp').1 (hp p hp').2] at this
      omega
    · intro z p hp'
      rw [left_above h (hp p hp').1 (hp p hp').2]
      have := hf p hp'
      rcases z with z | z
      · omega
      · have := z p hp'
        omega
end KP
set_option Elab.async false
set_option maxRecDepth 100000
set_option linter.all false
/-! Ours: the room is the greatest number that the row lets; how long the wait is. -/
namespace KP
open PySem PySem.Spec PyProof.Rows L2 Gr GxR
theorem above_mono {c d : Int} (ns : List Int) (h : c ≤ d) : above d ns ≤ above c ns := List.countP_mono_left fun y _ hy => decide_eq_true (by have := of_decide_eq_true hy; omega)
end KP
set_option Elab.async false
set_option maxRecDepth 100000
set_option linter.all false
/-! Ours: the counts of a polite row fit. -/
namespace KP
open PySem PySem.Spec PyProof.Rows L2 Gr GxR
/-- no window of the row is too full -/
def Full (ps : List (Int × Int)) (ns : List Int) : Prop := ∀ p ∈ ps, ∀ x : Int, ((above (x - p.2) ns : Nat) : Int) ≤ p.1 + ((above x ns : Nat) : Int)
theorem full_nil (ps : List (Int × Int)) (hp : ∀ p ∈ ps, 1 ≤ p.1) : Full ps [] := fun p hp' x => by
  have := hp p hp'
  show (0 : Int) ≤ p.1 + 0
  omega
end KP
set_option Elab.async false
set_option maxRecDepth 100000
set_option maxHeartbeats 4000000
set_option linter.all false
/-! Ours: the checks of a frozen row of asks. -/
namespace KP
open PySem PySem.Spec PyProof.Rows L2 Gr GxR
def FrzA (H : Hp) (v : V) (ns : List Int) : Prop := ∃ (a : Addr) (o : Obj), v = .ref a ∧ H a = some (.frz o (.tup (ns.map V.int))) ∧ o.dict = none
theorem FrzA.same {H H' : Hp} {v : V} {ns : List Int} (h : FrzA H v ns) (s : Same H H') : FrzA H' v ns := let ⟨a, o, e, q, d⟩ := h; ⟨a, o, e, s _ _ q, d⟩
theorem FrzA.stay {H H' : Hp} {v : V} {ns : List Int} (h : FrzA H v ns) (s : Stay H H') : FrzA H' v ns := let ⟨a, o, e, q, d⟩ := h; ⟨a, o, e, s _ _ q (fun _ z => nomatch z), d⟩
theorem sl_toF {K : PySem.W.Frag} {a : Addr} {ns : List Int} {i : Nat} {H : Hp} {Q : VK} (o : SqT K H a (ns.map V.int)) (hi : i < ns.length) (k : ∀ z H', Same H H' → IsI H' z (ns.take i) → Q z H') : rSlA K (.ref a) none (some (i : Int)) H Q := by
  refine ⟨a, _, rfl, o, fun q => ?_, fun _ p hp => k _ _ (same_upd hp) ⟨p, rfl, by rw [upd_same, cutV_to, List.map_take]⟩⟩
  exfalso
  rw [HT.sIx_nat, List.length_map] at q
  omega
end KP
set_option Elab.async false
set_option maxRecDepth 100000
set_option maxHeartbeats 4000000
set_option linter.all false
/-! Ours: t.count(e) of a frozen tuple of numbers. -/
namespace Gr
open PySem PySem.Spec PyProof.Rows L2 GxR
end Gr
set_option Elab.async false
set_option maxRecDepth 100000
set_option maxHeartbeats 4000000
set_option linter.all false
/-! Ours: counts_at of a frozen row. -/
set_option Elab.async false
set_option maxRecDepth 100000
set_option maxHeartbeats 4000000
set_option linter.all false
/-! Ours: counts any number of moments later; what a monitor lets: the mathematics. -/
namespace KP
open PySem PySem.Spec PyProof.Rows L2 Gr GxR
theorem rep_tt {K : PySem.W.Frag} {H : Hp} {a : Addr} {x : V} {n : Nat} {Q : VK} (hn : n ≤ 1000) (ha : H a = some (.tup [x])) (k : ∀ p H', Same H H' → H' p = some (.tup (List.replicate n x)) → Q (.ref p) H') : rRepA K (.ref a) (.int (n : Nat)) H Q := by
  have fl : ∀ m : Nat, (List.replicate m [x]).flatten = List.replicate m x := fun m => by
    induction m with
    | zero => rfl
    | succ m ih => rw [List.replicate_succ, List.flatten_cons, ih, List.replicate_succ]; rfl
  refine ⟨a, (n : Nat), [x], rfl, rfl, SqT.of ha, List.cons_ne_nil _ _, by omega, by omega, by show 1 ≤ 1000; decide, fun z => ?_, fun _ p hp => ?_⟩
  · have : n = 1 := by omega
    subst this
    exact k a H (.refl _) ha
  · refine k p _ (same_upd hp) ?_
    rw [upd_same, Int.toNat_natCast, fl]
/-- the counts d moments later, m asked now -/
def shG (d : Int) (m : Int) (cs : List Int) : List Int := (List.replicate (min (d - 1).toNat cs.length) 0 ++ [m] ++ cs).take cs.length
def spShiftG : Sp := fun vs H Q _ => ∃ (cv : V) (m d : Int) (cs : List Int), vs = [cv, .int m, .int d] ∧ Od H cv (.tuple (cs.map PyData.int)) ∧ 1 ≤ d ∧ cs.length ≤ 1000 ∧ ∀ z H', Same H H' → H' z = some (.tup ((shG d m cs).map V.int)) → Q (.ref z) H'
theorem cntL_later {ns : List Int} {t : Int} {L : Nat} (h : ∀ x ∈ ns, x ≤ t) {d : Int} (hd : 1 ≤ d) : shG d ((ns.count t : Nat) : Int) (cntL ns t L) = cntL ns (t + d) L := by
  unfold shG
  rw [cntL_len]
  refine List.ext_getElem ?_ fun j h1 h2 => ?_
  · rw [List.length_take, List.length_append, List.length_append, List.length_replicate, cntL_len, cntL_len]
    show min L (min (d - 1).toNat L + 1 + L) = L
    omega
  · rw [cntL_len] at h2
    have e2 : (cntL ns (t + d) L)[j] = ((ns.count (t + d - 1 - (j : Int)) : Nat) : Int) := by simp [cntL]
    rw [e2, List.getElem_take]
    by_cases z : j < min (d - 1).toNat L
    · rw [List.getElem_append_left (by rw [List.length_append, List.length_replicate]; show _ < _ + 1; omega), List.getElem_append_left (by rw [List.length_replicate]; exact z), List.getElem_replicate, List.count_eq_zero.mpr fun hx => by have := h _ hx; omega]
      rfl
    · by_cases y : j = min (d - 1).toNat L
      · have hj : j = (d - 1).toNat := by omega
        rw [List.getElem_append_left (by rw [List.length_append, List.length_replicate]; show _ < _ + 1; omega), List.getElem_append_right (by rw [List.length_replicate]; omega)]
        simp only [List.length_replicate, show j - min (d - 1).toNat L = 0 by omega]
        show ((ns.count t : Nat) : Int) = _
        rw [show t + d - 1 - (j : Int) = t by omega]
      · have hj : (d - 1).toNat < j := by omega
        have hw : min (d - 1).toNat L = (d - 1).toNat := by omega
        rw [List.getElem_append_right (by rw [List.length_append, List.length_replicate]; show _ + 1 ≤ j; omega)]
        simp only [List.length_append, List.length_replicate, List.length_cons, List.length_nil, hw]
        simp only [cntL, List.getElem_map, List.getElem_range]
        rw [show t - 1 - ((j - ((d - 1).toNat + (0 + 1)) : Nat) : Int) = t + d - 1 - (j : Int) by omega]
/-- a monitor's asks, up to its moment -/
structure Stn (ps : List (Int × Int)) (hs ns : List Int) (t : Int) : Prop where
  asc : asc 0 ns
  top : ∀ x ∈ ns, x ≤ t
  opn : ∀ x ∈ ns, openI hs x = true
  full : Full ps ns
  t0 : 0 ≤ t
theorem Stn.later {ps : List (Int × Int)} {hs ns : List Int} {t u : Int} (s : Stn ps hs ns t) (h : t ≤ u) : Stn ps hs ns u := ⟨s.asc, fun x hx => by have := s.top x hx; omega, s.opn, s.full, by have := s.t0; omega⟩
theorem above_top {ns : List Int} {t : Int} (h : ∀ x ∈ ns, x ≤ t) : above t ns = 0 := List.countP_eq_zero.mpr fun x hx hd => by
  have := h x hx
  have := of_decide_eq_true hd
  omega
theorem Stn.cap {ps : List (Int × Int)} {hs ns : List Int} {t : Int} (s : Stn ps hs ns t) {p : Int × Int} (hp : p ∈ ps) : ((above (t - p.2) ns : Nat) : Int) ≤ p.1 := by
  have := s.full p hp t
  rw [above_top s.top] at this
  omega
/-- the asks ahead of a moment -/
theorem above_part {ns : List Int} {t c : Int} (h : ∀ x ∈ ns, x ≤ t) (hc : c < t) : above c ns = above c (ns.filter fun x => decide (x < t)) + ns.count t := by
  induction ns with
  | nil => rfl
  | cons a l ih =>
    have hl := ih fun x hx => h x (List.mem_cons_of_mem _ hx)
    have ha := h a List.mem_cons_self
    unfold above at hl ⊢
    rw [List.countP_cons, List.count_cons, hl]
    by_cases z : a < t
    · rw [List.filter_cons_of_pos (by exact decide_eq_true z), List.countP_cons, if_neg (show ¬ (a == t) = true by simp; omega)]
      omega
    · have : a = t := by omega
      subst this
      rw [List.filter_cons_of_neg (by simp), if_pos (by simpa using hc), if_pos (by simp)]
      omega
theorem cntL_part (ns : List Int) (t : Int) (L : Nat) : cntL ns t L = cntL (ns.filter fun x => decide (x < t)) t L := by
  unfold cntL
  refine List.map_congr_left fun j _ => ?_
  congr 1
  rw [List.count_filter (by exact decide_eq_true (by omega))]
theorem may_now {ps : List (Int × Int)} {hs ns : List Int} {t n : Int} {L : Nat} (s : Stn ps hs ns t) (hp : ∀ p ∈ ps, 1 ≤ p.2 ∧ p.2 - 1 ≤ L) (n0 : 0 ≤ n) : hasB (roomC ps hs t (cntL ns t L)) (((ns.count t : Nat) : Int) + n) = mayI ps hs ns t n := by
  have hr : ∀ x ∈ ns.filter (fun x => decide (x < t)), x < t := fun x hx => of_decide_eq_true (List.mem_filter.mp hx).2
  have hab : ∀ p ∈ ps, above (t - p.2) ns = above (t - p.2) (ns.filter fun x => decide (x < t)) + ns.count t := fun p hp' => above_part s.top (by have := hp p hp'; omega)
  rw [cntL_part, has_may hr hp (fun p hp' => by have := s.cap hp'; have := hab p hp'; omega) (by omega)]
  unfold mayI
  by_cases z : n = 0
  · subst z
    rw [decide_eq_true (Int.le_refl 0), Bool.true_or]
    by_cases y : ns.count t = 0
    · rw [y]; rfl
    · rw [Bool.or_eq_true, Bool.and_eq_true]
      refine .inr ⟨s.opn t (List.count_pos_iff.mp (by omega)), List.all_eq_true.mpr fun p hp' => decide_eq_true ?_⟩
      have := s.cap hp'
      have := hab p hp'
      omega
  · rw [decide_eq_false (by omega), decide_eq_false (by omega), Bool.false_or, Bool.false_or]
    congr 1
    refine Bool.eq_iff_iff.mpr ?_
    rw [List.all_eq_true, List.all_eq_true]
    constructor
    · intro h p hp'
      have a := of_decide_eq_true (h p hp')
      have := hab p hp'
      exact decide_eq_true (by omega)
    · intro h p hp'
      have a := of_decide_eq_true (h p hp')
      have := hab p hp'
      exact decide_eq_true (by omega)
end KP
set_option Elab.async false
set_option maxRecDepth 100000
set_option maxHeartbeats 4000000
set_option linter.all false
/-! Ours: data of tuples alone: it stands as long as the tuples stand; lists of such that grow; cuts between statements. -/
namespace Gr
open PySem PySem.Spec PyProof.Rows L2 GxR
mutual
/-- no list and no dict within -/
def tupD : PyData → Bool
  | .none => true
  | .bool _ => true
  | .int _ => true
  | .str _ => true
  | .list _ => false
  | .tuple xs => tupDs xs
  | .dict _ => false
def tupDs : List PyData → Bool
  | [] => true
  | x :: xs => tupD x && tupDs xs
end
theorem tupDs_of : ∀ {ds : List PyData}, (∀ d ∈ ds, tupD d = true) → tupDs ds = true
  | [], _ => by simp [tupDs]
  | d :: ds, h => by
    simp only [tupDs, Bool.and_eq_true]
    exact ⟨h d List.mem_cons_self, tupDs_of fun x hx => h x (List.mem_cons_of_mem _ hx)⟩
theorem tupDs_mem : ∀ {ds : List PyData}, tupDs ds = true → ∀ d ∈ ds, tupD d = true
  | [], _, d, h => nomatch h
  | e :: ds, h, d, hd => by
    simp only [tupDs, Bool.and_eq_true] at h
    rcases List.mem_cons.mp hd with q | q
    · rw [q]; exact h.1
    · exact tupDs_mem h.2 d q
theorem tupD_tup {ds : List PyData} (h : ∀ d ∈ ds, tupD d = true) : tupD (.tuple ds) = true := by
  simp only [tupD]
  exact tupDs_of h
theorem tupD_ints (ns : List Int) : tupD (.tuple (ns.map PyData.int)) = true := tupD_tup fun d hd => by
  obtain ⟨n, _, rfl⟩ := List.mem_map.mp hd
  simp [tupD]
/-- the tuples stand -/
def TupStay (H H' : Hp) : Prop := ∀ a xs, H a = some (.tup xs) → H' a = some (.tup xs)
theorem TupStay.refl (H : Hp) : TupStay H H := fun _ _ e => e
theorem TupStay.trans {H H1 H2 : Hp} (a : TupStay H H1) (b : TupStay H1 H2) : TupStay H H2 := fun x xs e => b x xs (a x xs e)
theorem same_ts {H H' : Hp} (s : Same H H') : TupStay H H' := fun a xs e => s a _ e
theorem stay_ts {H H' : Hp} (s : Stay H H') : TupStay H H' := fun a xs e => s a _ e fun _ q => nomatch q
theorem ts_but {H H' : Hp} {p : Addr} {ys : List V} (e : H p = some (.lst ys)) (b : ∀ b o, H b = some o → b ≠ p → H' b = some o) : TupStay H H' := fun a xs q => b a _ q fun z => by
  rw [z, e] at q
  cases q
theorem ts_put {H : Hp} {D : Addr} {ys : List V} {o : HO} (e : H D = some (.lst ys)) : TupStay H (upd H D o) := fun a xs q => (upd_ne fun z => by
  rw [z, e] at q
  cases q).trans q
theorem ts_new {H : Hp} {D : Addr} {o : HO} (e : H D = none) : TupStay H (upd H D o) := fun a xs q => (upd_ne fun z => by
  rw [z, e] at q
  cases q).trans q
mutual
theorem Od.ts {H H' : Hp} (s : TupStay H H') : ∀ {v : V} {d : PyData}, Od H v d → tupD d = true → Od H' v d
  | _, _, .non, _ => .non
  | _, _, .bl b, _ => .bl b
  | _, _, .int i, _ => .int i
  | _, _, .str x, _ => .str x
  | _, _, .lst e a, h => by simp [tupD] at h
  | _, _, .tup e a, h => .tup (s _ _ e) (OdAll.ts s a (by simpa [tupD] using h))
  | _, _, .dic e a b, h => by simp [tupD] at h
theorem OdAll.ts {H H' : Hp} (s : TupStay H H') : ∀ {vs : List V} {ds : List PyData}, OdAll H vs ds → tupDs ds = true → OdAll H' vs ds
  | _, _, .nil, _ => .nil
  | _, _, .cons a b, h => by
    simp only [tupDs, Bool.and_eq_true] at h
    exact .cons (Od.ts s a h.1) (OdAll.ts s b h.2)
end
/-- at D a list of data of tuples -/
def LstT (H : Hp) (D : Addr) (ds : List PyData) : Prop := ∃ vs, H D = some (.lst vs) ∧ OdAll H vs ds ∧ tupDs ds = true
theorem LstT.at {H : Hp} {D : Addr} (e : H D = some (.lst [])) : LstT H D [] := ⟨[], e, .nil, by simp [tupDs]⟩
theorem LstT.ts {H H' : Hp} {D : Addr} {ds : List PyData} (h : LstT H D ds) (s : TupStay H H') (e : ∀ vs, H D = some (.lst vs) → H' D = some (.lst vs)) : LstT H' D ds :=
  let ⟨vs, a, b, t⟩ := h; ⟨vs, e _ a, b.ts s t, t⟩
theorem LstT.same {H H' : Hp} {D : Addr} {ds : List PyData} (h : LstT H D ds) (s : Same H H') : LstT H' D ds := h.ts (same_ts s) fun vs e => s _ _ e
theorem tupDs_app {ds es : List PyData} (h : tupDs ds = true) (k : tupDs es = true) : tupDs (ds ++ es) = true := tupDs_of fun d hd => by
  rcases List.mem_append.mp hd with q | q
  · exact tupDs_mem h d q
  · exact tupDs_mem k d q
theorem LstT.put {H : Hp} {D : Addr} {ds : List PyData} {vs : List V} {v : V} {d : PyData} (h : LstT H D ds) (e : H D = some (.lst vs)) (o : Od H v d) (t : tupD d = true) : LstT (upd H D (.lst (vs ++ [v]))) D (ds ++ [d]) := by
  obtain ⟨us, a, b, td⟩ := h
  obtain rfl : us = vs := by rw [a] at e; cases e; rfl
  have s : TupStay H (upd H D (.lst (us ++ [v]))) := ts_put a
  have t1 : tupDs [d] = true := by simp [tupDs, t]
  exact ⟨_, upd_same, (b.ts s td).app ((OdAll.cons o .nil).ts s t1), tupDs_app td t1⟩
theorem LstT.len {H : Hp} {D : Addr} {ds : List PyData} {vs : List V} (h : LstT H D ds) (e : H D = some (.lst vs)) : vs.length = ds.length := by
  obtain ⟨us, a, b, _⟩ := h
  rw [a] at e
  cases e
  exact b.len
/-- its things as a new tuple -/
theorem LstT.tup {H : Hp} {D R : Addr} {ds : List PyData} {vs : List V} (h : LstT H D ds) (e : H D = some (.lst vs)) (hR : H R = none) : Od (upd H R (.tup vs)) (.ref R) (.tuple ds) := by
  obtain ⟨us, a, b, td⟩ := h
  rw [a] at e
  cases e
  exact .tup upd_same (b.ts (ts_new hR) td)
theorem od_at {H : Hp} : ∀ {vs : List V} {ds : List PyData}, OdAll H vs ds → ∀ {i : Nat} {v : V}, vs[i]? = some v → ∃ d, ds[i]? = some d ∧ Od H v d
  | _, _, .nil, _, _, e => by cases e
  | _, _, .cons a b, 0, _, e => by
    cases e
    exact ⟨_, rfl, a⟩
  | _, _, .cons a b, i + 1, v, e => od_at b (i := i) (by simpa using e)
/-- a statement, then what follows, by what stands between them -/
theorem cut1 {A C : TS} {D : Ends} {σ : L2.St} {H : Hp} (R : L2.St → Hp → Prop) (ha : ∀ N : L2.St → Hp → Prop, (∀ σ' H', R σ' H' → N σ' H') → A { D with nx := N } σ H) (hc : ∀ σ' H', R σ' H' → C D σ' H') : tSeq A C D σ H := ha (C D) hc
end Gr
set_option Elab.async false
set_option maxRecDepth 100000
set_option maxHeartbeats 4000000
set_option linter.all false
/-! Ours: Monitor: what stands, what it tells, lets, ask. -/
namespace KP
open PySem PySem.Spec PyProof.Rows L2 Gr GxR
theorem full_next2 {ps : List (Int × Int)} {ns : List Int} {t : Int} (hp : ∀ p ∈ ps, 1 ≤ p.1 ∧ 1 ≤ p.2) (f : Full ps ns) {m : Nat} (hm : ∀ p ∈ ps, 0 < m → ((above (t - p.2) ns : Nat) : Int) + (m : Int) ≤ p.1) : Full ps (ns ++ List.replicate m t) := fun p hp' x => by
  have q := hp p hp'
  have f1 := f p hp' x
  have ab : ∀ c : Int, above c (ns ++ List.replicate m t) = above c ns + (if c < t then m else 0) := fun c => by
    unfold above
    rw [List.countP_append]
    congr 1
    by_cases z : c < t
    · rw [if_pos z, List.countP_replicate, if_pos (decide_eq_true z)]
    · rw [if_neg z, List.countP_replicate, if_neg (by simpa using z)]
  rw [ab, ab]
  by_cases z : x < t
  · rw [if_pos z, if_pos (by omega)]
    omega
  · rw [if_neg z]
    by_cases y : x - p.2 < t
    · rw [if_pos y]
      by_cases m0 : 0 < m
      · have a := hm p hp' m0
        have b := above_mono ns (show t - p.2 ≤ x - p.2 by omega)
        omega
      · omega
    · rw [if_neg y]
      omega
theorem asc_app : ∀ {l : List Int} {m : Int} {r : List Int}, asc m l → (∀ x ∈ l, ∀ y ∈ r, x ≤ y) → asc m r → asc m (l ++ r)
  | [], _, _, _, _, h => h
  | a :: l, m, r, h, h1, h2 => ⟨h.1, asc_app h.2 (fun x hx => h1 x (List.mem_cons_of_mem _ hx)) (by
    cases r with
    | nil => trivial
    | cons b r => exact ⟨h1 a List.mem_cons_self b List.mem_cons_self, h2.2⟩)⟩
theorem asc_rep {m u : Int} (h : m ≤ u) : ∀ n : Nat, asc m (List.replicate n u)
  | 0 => trivial
  | n + 1 => ⟨h, asc_rep (Int.le_refl u) n⟩
theorem Stn.ask {ps : List (Int × Int)} {hs ns : List Int} {t u : Int} {n : Nat} (s : Stn ps hs ns t) (hu : t ≤ u) (hp : ∀ p ∈ ps, 1 ≤ p.1 ∧ 1 ≤ p.2) (hm : mayI ps hs ns u (n : Nat) = true) : Stn ps hs (ns ++ List.replicate n u) u := by
  have hmm : 0 < n → openI hs u = true ∧ ∀ p ∈ ps, ((above (u - p.2) ns : Nat) : Int) + (n : Int) ≤ p.1 := fun h => by
    unfold mayI at hm
    rw [decide_eq_false (by omega), Bool.false_or, Bool.and_eq_true] at hm
    exact ⟨hm.1, fun p hp' => of_decide_eq_true (List.all_eq_true.mp hm.2 p hp')⟩
  refine ⟨asc_app s.asc (fun x hx y hy => ?_) (asc_rep (by have := s.t0; omega) n), fun x hx => ?_, fun x hx => ?_, full_next2 hp s.full fun p hp' h => (hmm h).2 p hp', by have := s.t0; omega⟩
  · have := s.top x hx
    rw [List.eq_of_mem_replicate hy]
    omega
  · rcases List.mem_append.mp hx with z | z
    · have := s.top x z; omega
    · rw [List.eq_of_mem_replicate z]; exact Int.le_refl _
  · rcases List.mem_append.mp hx with z | z
    · exact s.opn x z
    · rw [List.eq_of_mem_replicate z]
      refine (hmm ?_).1
      cases n with
      | zero => cases z
      | succ n => exact Nat.succ_pos _
theorem cnt_ask {ns : List Int} {t u : Int} (h : ∀ x ∈ ns, x ≤ t) (hu : t ≤ u) (n : Nat) : (if u = t then ns.count t else 0) + n = (ns ++ List.replicate n u).count u := by
  rw [List.count_append, List.count_replicate_self]
  by_cases z : u = t
  · subst z
    rw [if_pos rfl]
  · rw [if_neg z, List.count_eq_zero.mpr fun hx => by have := h _ hx; omega]
theorem cntL_ask (ns : List Int) (u : Int) (n L : Nat) : cntL (ns ++ List.replicate n u) u L = cntL ns u L := by
  unfold cntL
  refine List.map_congr_left fun j _ => ?_
  congr 1
  rw [List.count_append, List.count_eq_zero (a := u - 1 - (j : Int)) (l := List.replicate n u) |>.mpr fun hx => by have := List.eq_of_mem_replicate hx; omega, Nat.add_zero]
theorem tup_rules (ps : List (Int × Int)) (hs : List Int) : tupD (rulesP ps hs) = true := tupD_tup fun d hd => by
  simp only [List.mem_cons, List.not_mem_nil, or_false] at hd
  rcases hd with rfl | rfl
  · exact tupD_tup fun d hd => by
      obtain ⟨q, hq, rfl⟩ := List.mem_map.mp hd
      obtain ⟨p, _, rfl⟩ := List.mem_map.mp hq
      simp [tw, inD, tupD, tupDs]
  · exact tupD_ints hs
theorem foldl_ge : ∀ (l : List Int) (n : Int), n ≤ l.foldl max n ∧ ∀ x ∈ l, x ≤ l.foldl max n
  | [], n => ⟨Int.le_refl _, fun _ h => nomatch h⟩
  | a :: l, n => by
    obtain ⟨h1, h2⟩ := foldl_ge l (max n a)
    rw [List.foldl_cons]
    refine ⟨by omega, fun x hx => ?_⟩
    rcases List.mem_cons.mp hx with z | z
    · rw [z]; omega
    · exact h2 x z
theorem span_wide {ps : List (Int × Int)} (h : Lim ps) {p : Int × Int} (hp : p ∈ ps) : p.2 - 1 ≤ spanP ps := by
  unfold spanP
  cases ps with
  | nil => cases hp
  | cons q l =>
    have := foldl_ge (l.map (·.2)) q.2
    show p.2 - 1 ≤ (l.map (·.2)).foldl max q.2 - 1
    rcases List.mem_cons.mp hp with z | z
    · rw [z]; omega
    · have := this.2 p.2 (List.mem_map.mpr ⟨p, z, rfl⟩)
      omega
abbrev monF (rv : V) (t : Int) (cv : V) (m : Int) (ea : Addr) : List (Str × V) := [("_rules", rv), ("_moment", .int t), ("_counts", cv), ("_asked", .int m), ("_earlier", .ref ea)]
def MonAt {K : PySem.W.Frag} {mg : Str → Option Value} (T : D K mg) (H : Hp) (a ea : Addr) (k : Nat) (rv : V) (ps : List (Int × Int)) (hs ns : List Int) (t : Int) : Prop :=
  ∃ (dx : Addr) (cv : V) (es : List V), H a = some (.ins T.C_Monitor dx (monF rv t cv ((ns.count t : Nat) : Int) ea)) ∧ H ea = some (.lst es) ∧ es.length ≤ k ∧ IsI H cv (cntL ns t (spanP ps).toNat) ∧ Od H rv (rulesP ps hs)
theorem MonAt.same {K : PySem.W.Frag} {mg : Str → Option Value} {T : D K mg} {H H' : Hp} {a ea : Addr} {k : Nat} {rv : V} {ps : List (Int × Int)} {hs ns : List Int} {t : Int} (h : MonAt T H a ea k rv ps hs ns t) (s : Same H H') : MonAt T H' a ea k rv ps hs ns t := by
  obtain ⟨dx, cv, es, h1, h2, h3, h4, h5⟩ := h
  exact ⟨dx, cv, es, s _ _ h1, s _ _ h2, h3, h4.same s, h5.same s⟩
def spCkM {K : PySem.W.Frag} {mg : Str → Option Value} (T : D K mg) : Sp := fun vs H Q _ => ∃ (a ea : Addr) (k : Nat) (rv : V) (ps : List (Int × Int)) (hs ns : List Int) (t u n : Int), vs = [.ref a, .int u, .int n] ∧ MonAt T H a ea k rv ps hs ns t ∧ t ≤ u ∧ 0 ≤ n ∧ n ≤ 100 ∧ Q .non H
def spCtM {K : PySem.W.Frag} {mg : Str → Option Value} (T : D K mg) : Sp := fun vs H Q _ => ∃ (a ea : Addr) (k : Nat) (rv : V) (ps : List (Int × Int)) (hs ns : List Int) (t u : Int), vs = [.ref a, .int u] ∧ MonAt T H a ea k rv ps hs ns t ∧ Good ps hs ∧ (∀ x ∈ ns, x ≤ t) ∧ t ≤ u ∧ ∀ z H', Same H H' → IsI H' z (cntL ns u (spanP ps).toNat) → Q z H'
def spAtM {K : PySem.W.Frag} {mg : Str → Option Value} (T : D K mg) : Sp := fun vs H Q _ => ∃ (a ea : Addr) (k : Nat) (rv : V) (ps : List (Int × Int)) (hs ns : List Int) (t u : Int), vs = [.ref a, .int u] ∧ MonAt T H a ea k rv ps hs ns t ∧ Q (.int (if u = t then ((ns.count t : Nat) : Int) else 0)) H
def spLetM {K : PySem.W.Frag} {mg : Str → Option Value} (T : D K mg) : Sp := fun vs H Q _ => ∃ (a ea : Addr) (k : Nat) (rv : V) (ps : List (Int × Int)) (hs ns : List Int) (t u n : Int), vs = [.ref a, .int u, .int n] ∧ MonAt T H a ea k rv ps hs ns t ∧ Good ps hs ∧ Stn ps hs ns t ∧ t ≤ u ∧ 0 ≤ n ∧ n ≤ 100 ∧ ∀ H', Same H H' → Q (.bl (mayI ps hs ns u n)) H'
section
variable {P : Program} {w : World} {K : PySem.W.Frag} {mg : Str → Option Value} {base : Heap}
theorem sc_shiftG : FnScope ["counts", "many", "moments", "span", "waited"] ["counts", "many", "moments"] (defScope s_shifted) := ⟨rfl, rfl, rfl, by decide +kernel, rfl, by decide +kernel, by decide +kernel⟩
theorem ok_shiftG (T : D K mg) : FnOk P w K mg base CX0 1 T.f_shifted T.d_shifted ["counts", "many", "moments"] spShiftG := by
  refine T.U_shifted.ok sc_shiftG (fun vs H Q E h => ?_) (fun cdv A outer s H vs Q E hr h => ?_)
  · obtain ⟨cv, m, d, cs, rfl, _⟩ := h
    rfl
  · obtain ⟨cv, m, d, cs, rfl, hC, hd, hl, k⟩ := h
    have nd := sc_shiftG.nd
    have mz : 5000 ≤ sizeLine := by decide
    refine ⟨_, pss_cons (ps_set (i := 3) nd rfl (.inl rfl) (pe_callB call_len_seq (by rfl) T.len PySem.boot_len (pa_cons (pv 0) pa_nil)))
      (pss_cons (ps_set (i := 4) nd rfl (.inl rfl) (pe_callB (call_min2 rfl) (by rfl) T.min boot_min (pa_cons (pe_op op_sub (pv 2) pe_int) (pa_cons (pv 3) pa_nil))))
      (pss_one (ps_ret (pe_slice sl_tupA (pe_op op_catA (pe_op op_catA (pe_op op_repA (pe_tup (pa_cons pe_int pa_nil)) (pv 4)) (pe_tup (pa_cons (pv 1) pa_nil))) (pv 0)) po_none (po_some (pv 3)))))), ?_⟩
    obtain ⟨ca, rfl, ec⟩ := od_I hC
    refine ⟨_, rfl, ca, _, rfl, .inr (SqT.of ec), gn ?_⟩
    rw [List.length_map]
    dsimp only
    refine ⟨_, rfl, _, _, rfl, rfl, _, rfl, _, _, rfl, gn ?_⟩
    dsimp only
    obtain ⟨wn, hwn⟩ : ∃ wn : Nat, wn = min (d - 1).toNat cs.length := ⟨_, rfl⟩
    rw [show (if ((cs.length : Nat) : Int) < d - 1 then ((cs.length : Nat) : Int) else d - 1) = ((wn : Nat) : Int) from by split <;> omega]
    refine ⟨by show 1 ≤ sizeLine; omega, fun a ha => ⟨_, rfl, ?_⟩⟩
    have sa := same_upd (o := HO.tup [V.int 0]) ha
    refine rep_tt (n := wn) (by omega) upd_same fun b H2 sb eb => ?_
    have s2 := sa.trans sb
    refine ⟨_, rfl, by show 1 ≤ sizeLine; omega, fun c hc => ?_⟩
    have sc := same_upd (o := HO.tup [V.int m]) hc
    refine cat_tt (sc _ _ eb) upd_same (by rw [List.length_replicate]; show _ + 1 ≤ sizeLine; omega) fun p1 H3 s3 e3 => ⟨_, rfl, ?_⟩
    have s4 := s2.trans (sc.trans s3)
    refine cat_tt e3 (s4 _ _ ec) (by rw [List.length_map, List.length_append, List.length_replicate]; show _ + 1 + _ ≤ sizeLine; omega) fun p2 H4 s5 e4 => ?_
    dsimp only [tNoPart]
    refine ⟨_, rfl, _, rfl, slice_tt (by omega) e4 fun p3 H5 s6 e5 => ?_⟩
    refine k p3 H5 (s4.trans (s5.trans s6)) ?_
    rw [e5, Int.toNat_natCast]
    unfold shG
    rw [hwn, List.map_take, List.map_append, List.map_append, List.map_replicate]
    rfl
theorem sc_ckm : FnScope ["self", "moment", "many"] ["self", "moment", "many"] (defScope s__check) := ⟨rfl, rfl, rfl, by decide +kernel, rfl, by decide +kernel, by decide +kernel⟩
theorem ok_ckm (T : D K mg) : FnOk P w K mg base CX0 5 T.f__check T.d__check ["self", "moment", "many"] (spCkM T) := by
  refine T.U__check.ok sc_ckm (fun vs H Q E h => ?_) (fun cdv A outer s H vs Q E hr h => ?_)
  · obtain ⟨a, ea, k, rv, ps, hs, ns, t, u, n, rfl, _⟩ := h
    rfl
  · obtain ⟨a, ea, kk, rv, ps, hs, ns, t, u, n, rfl, ⟨dx, cv, es, h1, h2, h3, h4, h5⟩, hu, n0, n1, k⟩ := h
    refine ⟨_, pss_cons (ps_expr (pe_call (ok_from T) (hr.mono (by decide)) rfl T.g_check_from T.U_check_from.kp T.b_check_from .nil pass0 (pa_cons (pv 1) (pa_cons (pe_fld (pv 0) rfl) pa_nil))))
      (pss_one (ps_expr (pe_call (ok_amt T) hr rfl T.g_check_amount T.U_check_amount.kp T.b_check_amount .nil pass0 (pa_cons (pv 2) pa_nil)))), ?_⟩
    refine ⟨_, rfl, _, rfl, a, _, _, _, _, rfl, h1, T.cl_Monitor, T.n__moment, rfl, u, t, rfl, hu, ?_⟩
    exact ⟨_, rfl, n, rfl, n0, n1, k⟩
theorem sc_ctm : FnScope ["self", "moment"] ["self", "moment"] (defScope s__counts_then) := ⟨rfl, rfl, rfl, by decide +kernel, rfl, by decide +kernel, by decide +kernel⟩
theorem ok_ctm (T : D K mg) : FnOk P w K mg base CX0 2 T.f__counts_then T.d__counts_then ["self", "moment"] (spCtM T) := by
  refine T.U__counts_then.ok sc_ctm (fun vs H Q E h => ?_) (fun cdv A outer s H vs Q E hr h => ?_)
  · obtain ⟨a, ea, k, rv, ps, hs, ns, t, u, rfl, _⟩ := h
    rfl
  · obtain ⟨a, ea, kk, rv, ps, hs, ns, t, u, rfl, ⟨dx, cv, es, h1, h2, h3, h4, h5⟩, g, htop, hu, k⟩ := h
    refine ⟨_, pss_cons (ps_if (pt_cmpR op_eq (pv 1) (pe_fld (pv 0) rfl) (nomark _))
        (pss_one (ps_ret (pe_fld (pv 0) rfl)))
        (pss_nil))
      (pss_one (ps_ret (pe_call (ok_shiftG T) hr rfl T.g_shifted T.U_shifted.kp T.b_shifted .nil pass0 (pa_cons (pe_fld (pv 0) rfl) (pa_cons (pe_fld (pv 0) rfl) (pa_cons (pe_op op_sub (pv 1) (pe_fld (pv 0) rfl)) pa_nil)))))), ?_⟩
    refine ⟨_, rfl, _, rfl, a, _, _, _, _, rfl, h1, T.cl_Monitor, T.n__moment, rfl, rfl, _, rfl, ite2 (fun e => ?_) (fun e => next_of ?_)⟩
    · have e := of_decide_eq_true e
      cases e
      exact ⟨_, rfl, a, _, _, _, _, rfl, h1, T.cl_Monitor, T.n__counts, rfl, k cv H (.refl _) h4⟩
    · have hut : u ≠ t := fun z => e (decide_eq_true (by rw [z]))
      have sb := span_bound g.lim
      refine ⟨_, rfl, a, _, _, _, _, rfl, h1, T.cl_Monitor, T.n__counts, rfl, _, rfl, a, _, _, _, _, rfl, h1, T.cl_Monitor, T.n__asked, rfl, _, rfl, _, rfl, a, _, _, _, _, rfl, h1, T.cl_Monitor, T.n__moment, rfl, _, _, rfl, rfl, cv, _, u - t, cntL ns t (spanP ps).toNat, rfl, h4.od, by omega, by rw [cntL_len]; omega, fun z H' s' ez => ?_⟩
      refine k (.ref z) H' s' ⟨z, rfl, ?_⟩
      rw [ez, cntL_later htop (by omega), show t + (u - t) = u by omega]
theorem sc_atm : FnScope ["self", "moment"] ["self", "moment"] (defScope s__asked_then) := ⟨rfl, rfl, rfl, by decide +kernel, rfl, by decide +kernel, by decide +kernel⟩
theorem ok_atm (T : D K mg) : FnOk P w K mg base CX0 1 T.f__asked_then T.d__asked_then ["self", "moment"] (spAtM T) := by
  refine T.U__asked_then.ok sc_atm (fun vs H Q E h => ?_) (fun cdv A outer s H vs Q E hr h => ?_)
  · obtain ⟨a, ea, k, rv, ps, hs, ns, t, u, rfl, _⟩ := h
    rfl
  · obtain ⟨a, ea, kk, rv, ps, hs, ns, t, u, rfl, ⟨dx, cv, es, h1, h2, h3, h4, h5⟩, k⟩ := h
    refine ⟨_, pss_one (ps_ret (pe_ifExp (pt_cmpR op_eq (pv 1) (pe_fld (pv 0) rfl) (nomark _)) (pe_fld (pv 0) rfl) pe_int)), ?_⟩
    refine ⟨_, rfl, _, rfl, a, _, _, _, _, rfl, h1, T.cl_Monitor, T.n__moment, rfl, rfl, _, rfl, ite2 (fun e => ?_) (fun e => ?_)⟩
    · have e := of_decide_eq_true e
      cases e
      rw [if_pos rfl] at k
      exact ⟨_, rfl, a, _, _, _, _, rfl, h1, T.cl_Monitor, T.n__asked, rfl, k⟩
    · have hut : u ≠ t := fun z => e (decide_eq_true (by rw [z]))
      rw [if_neg hut] at k
      exact k
theorem sc_letm : FnScope ["self", "moment", "many"] ["self", "moment", "many"] (defScope s_lets) := ⟨rfl, rfl, rfl, by decide +kernel, rfl, by decide +kernel, by decide +kernel⟩
theorem ok_letm (T : D K mg) : FnOk P w K mg base CX0 6 T.f_lets T.d_lets ["self", "moment", "many"] (spLetM T) := by
  refine okN T.W_lets sc_letm (fun vs H Q E h => ?_) (fun cdv A outer s H vs Q E hr h => ?_)
  · obtain ⟨a, ea, k, rv, ps, hs, ns, t, u, n, rfl, _⟩ := h
    rfl
  · obtain ⟨a, ea, kk, rv, ps, hs, ns, t, u, n, rfl, hM, g, st, hu, n0, n1, k⟩ := h
    refine ⟨_, pss_cons (ps_expr (pe_meth (pv 0) T.cl_Monitor T.M__check (ok_ckm T) hr T.b__check .nil pass0 (pa_cons (pv 1) (pa_cons (pv 2) pa_nil))))
      (pss_one (ps_ret (pe_call (ok_has T) (hr.mono (by decide)) rfl T.g_has_room T.U_has_room.kp T.b_has_room .nil pass0 (pa_cons (pe_fld (pv 0) rfl) (pa_cons (pv 1) (pa_cons (pe_meth (pv 0) T.cl_Monitor T.M__counts_then (ok_ctm T) (hr.mono (by decide)) T.b__counts_then .nil pass0 (pa_cons (pv 1) pa_nil)) (pa_cons (pe_op op_add (pe_meth (pv 0) T.cl_Monitor T.M__asked_then (ok_atm T) (hr.mono (by decide)) T.b__asked_then .nil pass0 (pa_cons (pv 1) pa_nil)) (pv 2)) pa_nil))))))), ?_⟩
    obtain ⟨dx, cv, es, h1, h2, h3, h4, h5⟩ := id hM
    refine ⟨_, rfl, a, _, _, rfl, h1, rfl, _, rfl, _, rfl, a, ea, kk, rv, ps, hs, ns, t, u, n, rfl, hM, hu, n0, n1, ?_⟩
    refine ⟨_, rfl, a, _, _, _, _, rfl, h1, T.cl_Monitor, T.n__rules, rfl, _, rfl, _, rfl, a, _, _, rfl, h1, rfl, _, rfl, a, ea, kk, rv, ps, hs, ns, t, u, rfl, hM, g, st.top, hu, fun z H1 s1 iz => ?_⟩
    refine ⟨_, rfl, a, _, _, rfl, s1 _ _ h1, rfl, _, rfl, a, ea, kk, rv, ps, hs, ns, t, u, rfl, hM.same s1, _, rfl, _, _, rfl, rfl, rv, z, u, _, ps, hs, cntL ns u (spanP ps).toNat, rfl, h5.same s1, g, iz.od, fun H2 s2 => ?_⟩
    have hp : ∀ p ∈ ps, 1 ≤ p.2 ∧ p.2 - 1 ≤ ((spanP ps).toNat : Nat) := fun p hp => by
      have a1 := g.p p hp
      have a2 := span_wide g.lim hp
      omega
    have e : hasB (roomC ps hs u (cntL ns u (spanP ps).toNat)) ((if u = t then ((ns.count t : Nat) : Int) else 0) + n) = mayI ps hs ns u n := by
      by_cases z : u = t
      · subst z
        rw [if_pos rfl]
        exact may_now st hp n0
      · rw [if_neg z, Int.zero_add]
        have hlt : ∀ x ∈ ns, x < u := fun x hx => by have := st.top x hx; omega
        exact has_may hlt hp (fun p hp' => (st.later hu).cap hp') n0
    rw [e]
    exact k H2 (s1.trans s2)
theorem sc_askm : FnScope ["self", "moment", "many", "counts", "asked"] ["self", "moment", "many"] (defScope s_ask) := ⟨rfl, rfl, rfl, by decide +kernel, rfl, by decide +kernel, by decide +kernel⟩
end
end KP
set_option Elab.async false
set_option maxRecDepth 100000
set_option maxHeartbeats 4000000
set_option linter.all false
/-! Ours: Monitor: made, its counts told, soonest. -/
namespace KP
open PySem PySem.Spec PyProof.Rows L2 Gr GxR
theorem cntL_nil (t : Int) (L : Nat) : cntL [] t L = List.replicate L 0 := by
  refine List.ext_getElem (by rw [cntL_len, List.length_replicate]) fun j h1 h2 => ?_
  rw [List.getElem_replicate]
  simp [cntL]
theorem row_srt {ps : List (Int × Int)} {hs ns ts : List Int} {st : Int} (sn : Srt ns) (sr : SRow ps hs ns st ts) : ∀ i, i ≤ ts.length → Srt (ns ++ ts.take i)
  | 0, _ => by rw [List.take_zero, List.append_nil]; exact sn
  | i + 1, hi => by
    have a := row_srt sn sr i (by omega)
    have n := sr i (by omega)
    have e : ts.take (i + 1) = ts.take i ++ [ts[i]] := by rw [List.take_add_one, List.getElem?_eq_getElem (by omega)]; rfl
    rw [e, ← List.append_assoc]
    exact snoc_srt a n.past
theorem rep_flat (x : V) : ∀ m : Nat, (List.replicate m [x]).flatten = List.replicate m x
  | 0 => rfl
  | m + 1 => by rw [List.replicate_succ, List.flatten_cons, rep_flat x m, List.replicate_succ]; rfl
def spInitM {K : PySem.W.Frag} {mg : Str → Option Value} (T : D K mg) : Sp := fun vs H Q _ => ∃ (a dx : Addr) (rv : V) (ps : List (Int × Int)) (hs : List Int) (t : Int), vs = [.ref a, rv, .int t] ∧ H a = some (.ins T.C_Monitor dx []) ∧ Od H rv (rulesP ps hs) ∧ Good ps hs ∧ 0 ≤ t ∧ Tb (tabs T) H ∧
  ∀ ea H1 H', UpL (tabs T) H H1 → H1 ea = none → (∀ b o, H1 b = some o → b ≠ a → H' b = some o) → MonAt T H' a ea 0 rv ps hs [] t → Q .non H'
section
variable {P : Program} {w : World} {K : PySem.W.Frag} {mg : Str → Option Value} {base : Heap}
theorem sc_initm : FnScope ["self", "rules", "moment"] ["self", "rules", "moment"] (defScope s_init) := ⟨rfl, rfl, rfl, by decide +kernel, rfl, by decide +kernel, by decide +kernel⟩
theorem ok_initm (T : D K mg) (TB : Tabs base T) : FnOk P w K mg base CX0 8 T.f_init T.d_init ["self", "rules", "moment"] (spInitM T) := by
  refine okN T.W_init sc_initm (fun vs H Q E h => ?_) (fun cdv A outer s H vs Q E hr h => ?_)
  · obtain ⟨a, dx, rv, ps, hs, t, rfl, _⟩ := h
    rfl
  · obtain ⟨a, dx, rv, ps, hs, t, rfl, h1, hR, g, t0, hT, k⟩ := h
    have mz : 5000 ≤ sizeLine := by decide
    refine ⟨_, pss_cons (ps_expr (pe_call (ok_ckr T TB) hr rfl T.g_check_rules T.U_check_rules.kp T.b_check_rules .nil pass0 (pa_cons (pv 1) pa_nil)))
      (pss_cons (ps_expr (pe_call (ok_from T) (hr.mono (by decide)) rfl T.g_check_from T.U_check_from.kp T.b_check_from .nil pass0 (pa_cons (pv 2) (pa_cons pe_int pa_nil))))
      (pss_cons (ps_fld (pv 0) (pv 1) rfl)
      (pss_cons (ps_fld (pv 0) (pv 2) rfl)
      (pss_cons (ps_fld (pv 0) (pe_op op_repA (pe_tup (pa_cons pe_int pa_nil)) (pe_call (ok_span T) (hr.mono (by decide)) rfl T.g_span_of T.U_span_of.kp T.b_span_of .nil pass0 (pa_cons (pe_ix ix_tup (pv 1) pe_int (fun _ _ => rfl)) pa_nil))) rfl)
      (pss_cons (ps_fld (pv 0) pe_int rfl)
      (pss_one (ps_fld (pv 0) (pe_lst pa_nil) rfl))))))), ?_⟩
    refine ⟨_, rfl, rv, _, rfl, hR, g.rules, hT, fun H1 u1 => ?_⟩
    have st1 := u1.stay hT
    have e1 := st1 _ _ h1 fun _ q => nomatch q
    have hR1 := hR.stay st1
    refine ⟨_, rfl, t, 0, rfl, t0, ?_⟩
    have sb := span_bound g.lim
    refine ⟨_, rfl, _, rfl, a, _, _, _, rfl, e1, T.cl_Monitor, T.n__rules, by show 0 < 1000; decide, ?_⟩
    refine ⟨_, rfl, _, rfl, a, _, _, _, rfl, upd_same, T.cl_Monitor, T.n__moment, by show 1 < 1000; decide, ?_⟩
    -- heaps that differ from H1 at a alone
    have ts : ∀ (G : Hp) (o : HO), (∃ fs, G a = some (.ins T.C_Monitor dx fs)) → TupStay G (upd G a o) := fun G o ⟨fs, e⟩ b xs q => by
      have : b ≠ a := fun w => by rw [w, e] at q; cases q
      exact (upd_ne this).trans q
    have fr2 : ∀ b o, H1 b = some o → b ≠ a → upd (upd H1 a (.ins T.C_Monitor dx (putF "_rules" rv []))) a (.ins T.C_Monitor dx (putF "_moment" (.int t) (putF "_rules" rv []))) b = some o := fun b o e n => by rw [upd_ne n, upd_ne n]; exact e
    have hR2 : Od (upd (upd H1 a (.ins T.C_Monitor dx (putF "_rules" rv []))) a (.ins T.C_Monitor dx (putF "_moment" (.int t) (putF "_rules" rv [])))) rv (rulesP ps hs) := (hR1.ts (ts _ _ ⟨_, e1⟩) (tup_rules ps hs)).ts (ts _ _ ⟨_, upd_same⟩) (tup_rules ps hs)
    have ea2 : upd (upd H1 a (.ins T.C_Monitor dx (putF "_rules" rv []))) a (.ins T.C_Monitor dx (putF "_moment" (.int t) (putF "_rules" rv []))) a = some (.ins T.C_Monitor dx [("_rules", rv), ("_moment", .int t)]) := upd_same
    generalize upd (upd H1 a (.ins T.C_Monitor dx (putF "_rules" rv []))) a (.ins T.C_Monitor dx (putF "_moment" (.int t) (putF "_rules" rv []))) = H2 at *
    refine ⟨by show 1 ≤ sizeLine; omega, fun c hc => ?_⟩
    have sc := same_upd (o := HO.tup [V.int 0]) hc
    have ec : upd H2 c (.tup [V.int 0]) c = some (.tup [V.int 0]) := upd_same
    have hR3 := hR2.same sc
    have ea3 := sc _ _ ea2
    have fr3 : ∀ b o, H1 b = some o → b ≠ a → upd H2 c (.tup [V.int 0]) b = some o := fun b o e n => sc _ _ (fr2 b o e n)
    generalize upd H2 c (.tup [V.int 0]) = H3 at *
    obtain ⟨ra, rl, rfl, er, orl⟩ := od_tup hR3
    match rl, orl with
    | [lv, hv], .cons oL (.cons oH .nil) =>
    refine ⟨_, rfl, ra, _, 0, _, rfl, rfl, SqT.of er, atI_nat (j := 0) (by rfl), lv, ps, rfl, by rw [prs]; exact oL, g.lim, fun H4 s4 => ?_⟩
    obtain ⟨sn, hsn⟩ := Int.eq_ofNat_of_zero_le sb.1
    rw [hsn]
    refine rep_tt (n := sn) (by omega) (s4 _ _ ec) fun z H5 s5 ez => ?_
    have s45 := s4.trans s5
    have ea5 := s45 _ _ ea3
    refine ⟨_, rfl, a, _, _, _, rfl, ea5, T.cl_Monitor, T.n__counts, by show 2 < 1000; decide, ?_⟩
    refine ⟨_, rfl, a, _, _, _, rfl, upd_same, T.cl_Monitor, T.n__asked, by show 3 < 1000; decide, ?_⟩
    refine ⟨by show 0 ≤ sizeLine; omega, fun ea hea => ?_⟩
    have nea : a ≠ ea := fun z => by rw [← z, upd_same] at hea; cases hea
    have hea5 : H5 ea = none := by rw [upd_ne (Ne.symm nea), upd_ne (Ne.symm nea)] at hea; exact hea
    have h1ea : H1 ea = none := by
      cases h : H1 ea with
      | none => rfl
      | some o => rw [s45 _ _ (fr3 _ _ h (Ne.symm nea))] at hea5; cases hea5
    refine ⟨_, rfl, a, _, _, _, rfl, (upd_ne nea).trans upd_same, T.cl_Monitor, T.n__earlier, by show 4 < 1000; decide, ?_⟩
    have nza : z ≠ a := fun w => by rw [w, ea5] at ez; cases ez
    have nze : z ≠ ea := fun w => by rw [w, hea5] at ez; cases ez
    refine k ea H1 _ u1 h1ea (fun b o e n => ?_) ⟨dx, .ref z, [], upd_same, ?_, Nat.le_refl _, ⟨z, rfl, ?_⟩, ?_⟩
    · have nb : b ≠ ea := ne_of_none e h1ea
      rw [upd_ne n, upd_ne nb, upd_ne n, upd_ne n]
      exact s45 _ _ (fr3 b o e n)
    · rw [upd_ne (Ne.symm nea), upd_same]
    · rw [upd_ne nza, upd_ne nze, upd_ne nza, upd_ne nza, ez, cntL_nil, hsn, Int.toNat_natCast, List.map_replicate]
    · refine hR1.ts (fun b xs e => ?_) (tup_rules ps hs)
      have n : b ≠ a := fun w => by rw [w, e1] at e; cases e
      have nb : b ≠ ea := ne_of_none e h1ea
      rw [upd_ne n, upd_ne nb, upd_ne n, upd_ne n]
      exact s45 _ _ (fr3 b _ e n)
end
end KP
set_option Elab.async false
set_option maxRecDepth 100000
set_option maxHeartbeats 4000000
set_option linter.all false
/-! Ours: asks that are frozen or not. -/
namespace KP
open PySem PySem.Spec PyProof.Rows L2 Gr GxR
def AskV (H : Hp) (v : V) (ns : List Int) : Prop := ∃ a : Addr, v = .ref a ∧ Rd H a (.tup (ns.map V.int))
theorem rd_same {H H' : Hp} {a : Addr} {x : HO} (s : Same H H') (h : Rd H a x) : Rd H' a x := h.elim (fun h => .inl (s _ _ h)) fun ⟨o, h⟩ => .inr ⟨o, s _ _ h⟩
theorem rd_stay {H H' : Hp} {a : Addr} {xs : List V} (s : Stay H H') (h : Rd H a (.tup xs)) : Rd H' a (.tup xs) := h.elim (fun h => .inl (s _ _ h fun _ z => nomatch z)) fun ⟨o, h⟩ => .inr ⟨o, s _ _ h fun _ z => nomatch z⟩
theorem AskV.same {H H' : Hp} {v : V} {ns : List Int} (h : AskV H v ns) (s : Same H H') : AskV H' v ns := let ⟨a, e, q⟩ := h; ⟨a, e, rd_same s q⟩
theorem AskV.stay {H H' : Hp} {v : V} {ns : List Int} (h : AskV H v ns) (s : Stay H H') : AskV H' v ns := let ⟨a, e, q⟩ := h; ⟨a, e, rd_stay s q⟩
theorem AskV.frz {H : Hp} {v : V} {ns : List Int} (h : FrzA H v ns) : AskV H v ns := let ⟨a, o, e, q, _⟩ := h; ⟨a, e, .inr ⟨o, q⟩⟩
theorem AskV.dq {K : PySem.W.Frag} {H : Hp} {v : V} {ns : List Int} (h : AskV H v ns) : Dq K H v (.tuple (ns.map PyData.int)) := by
  obtain ⟨a, rfl, q⟩ := h
  exact .tup (.inl q) (OdAll.dq (H := H) (ints_od ns))
theorem rd_ty {K : PySem.W.Frag} {H : Hp} {a : Addr} {ns : List Int} (h : Rd H a (.tup (ns.map V.int))) : TyX K H (.ref a) (.type "tuple") := h.elim (fun e => Od.ty (.tup e (ints_od ns))) fun ⟨o, e⟩ => .fTuple e
def spRowA : Sp := fun vs H Q _ => ∃ (v : V) (ns : List Int) (lo hi : Int), vs = [v, .int lo, .int hi] ∧ AskV H v ns ∧ lo ≤ (ns.length : Nat) ∧ ((ns.length : Nat) : Int) ≤ hi ∧ Q (.bl true) H
def spBackA : Sp := fun vs H Q _ => ∃ (v : V) (ns : List Int), vs = [v] ∧ AskV H v ns ∧ asc 0 ns ∧ ∀ H', Same H H' → Q .non H'
def spAsksA : Sp := fun vs H Q _ => ∃ (v : V) (ns : List Int), vs = [v] ∧ AskV H v ns ∧ asc 0 ns ∧ ns.length ≤ 200 ∧ ∀ H', Same H H' → Q .non H'
def spFirstA (L : List Addr) : Sp := fun vs H Q _ => ∃ (rv av : V) (ps : List (Int × Int)) (hs ns : List Int), vs = [rv, av] ∧ Od H rv (rulesP ps hs) ∧ (∀ p ∈ ps, 1 ≤ p.1) ∧ 0 < hs.length ∧ AskV H av ns ∧ Tb L H ∧ ∀ H', UpL L H H' → Q (optV (firstI ps hs ns)) H'
def spFWA (L : List Addr) : Sp := fun vs H Q _ => ∃ (rv av : V) (ps : List (Int × Int)) (hs ns : List Int), vs = [rv, av] ∧ Od H rv (rulesP ps hs) ∧ AskV H av ns ∧ Right ps hs ns ∧ Tb L H ∧ ∀ H', UpL L H H' → Q (optV (firstI ps hs ns)) H'
def spPoliteA (L : List Addr) : Sp := fun vs H Q _ => ∃ (rv av : V) (ps : List (Int × Int)) (hs ns : List Int), vs = [rv, av] ∧ Od H rv (rulesP ps hs) ∧ AskV H av ns ∧ Right ps hs ns ∧ Tb L H ∧ ∀ H', UpL L H H' → Q (.bl (firstI ps hs ns).isNone) H'
section
variable {P : Program} {w : World} {K : PySem.W.Frag} {mg : Str → Option Value} {base : Heap}
theorem ok_rowA (T : D K mg) : FnOk P w K mg base CX0 1 T.f_is_tuple T.d_is_tuple ["value", "low", "high"] spRowA := by
  refine T.U_is_tuple.ok sc_row (fun vs H Q E h => ?_) (fun cdv A outer s H vs Q E hr h => ?_)
  · obtain ⟨v, ns, lo, hi, rfl, _⟩ := h
    rfl
  · obtain ⟨v, ns, lo, hi, rfl, ⟨a, rfl, ea⟩, h1, h2, k⟩ := h
    refine ⟨_, pss_one (ps_ret (pe_and (pe_callB call_isi (by rfl) T.isinstance (by decide +kernel) (pa_cons (pv 0) (pa_cons (pe_bltn (v := .ty "tuple") (by rfl) T.tuple (by decide +kernel) rfl) pa_nil))) (pe_one (pe_chain op_le op_le (pv 1) (pe_callB call_len_seq (by rfl) T.len PySem.boot_len (pa_cons (pv 0) pa_nil)) (pv 2))))), ?_⟩
    refine ⟨_, rfl, _, _, _, _, _, rfl, .ty _, rd_ty ea, kTup (.tuple (ns.map PyData.int)), true, rfl, iteT ?_⟩
    refine ⟨_, rfl, _, rfl, a, _, rfl, .inr (.inl ea), _, _, rfl, rfl, _, rfl, ?_⟩
    rw [List.length_map, if_pos (decide_eq_true h1)]
    refine ⟨_, rfl, _, _, rfl, rfl, ?_⟩
    dsimp only
    rw [decide_eq_true h2]
    exact k
theorem ok_backA (T : D K mg) : FnOk P w K mg base CX0 2 T.f_first_back T.d_first_back ["values"] spBackA := by
  refine T.U_first_back.ok sc_back (fun vs H Q E h => ?_) (fun cdv A outer s H vs Q E hr h => ?_)
  · obtain ⟨v, ns, rfl, _⟩ := h
    rfl
  · obtain ⟨v, ns, rfl, hA, ha, k⟩ := h
    have nd := sc_back.nd
    refine ⟨_, pss_cons (ps_set (i := 1) nd rfl (.inl rfl) pe_int)
      (pss_cons (ps_for PassesOwn.never rfl (pi_enumT (by rfl) T.enumerate (pa_cons (pv 0) pa_nil)) (pg_tup rfl (pgs_cons (pg_name (i := 2) nd rfl (.inl rfl)) (pgs_cons (pg_name (i := 3) nd rfl (.inl rfl)) pgs_nil)))
        (pss_cons (ps_if (PW.pt (pw_or (pt_not (pt_val (pe_call (ok_whole T) hr rfl T.g_is_whole T.U_is_whole.kp T.b_is_whole .nil pass0 (pa_cons (pv 3) pa_nil)))) (pw_or1 (pt_cmpR op_lt (pv 3) (pv 1) (nomark _)))))
          (pss_one (ps_ret (pv 2)))
          (pss_nil))
        (pss_one (ps_set (i := 1) nd rfl (.inl rfl) (pv 3)))))
      (pss_one (ps_ret pe_non))), ?_⟩
    obtain ⟨a, rfl, ea⟩ := hA
    refine gn ?_
    dsimp only
    refine ⟨_, rfl, a, _, rfl, (.inl ea), for_it (walk_tp (K := K) (a := a) (xs := ns.map V.int)) (fun i σ H2 => Same H H2 ∧ ∃ (m : Int) (v2 v3 : Option V), asc m (ns.drop i) ∧ σ = [some (.ref a), some (.int m), v2, v3]) ⟨.refl _, 0, none, none, ha, rfl⟩ (fun i σ H2 _ q => .inl (rd_same q.1 ea)) ?_ ?_⟩
    · rintro i x σ H2 H3 hi ⟨s2, m, v2, v3, hm, rfl⟩ ⟨Tt, y, rfl, hTn, rfl, hy⟩
      rw [List.length_map] at hi
      rw [List.getElem?_map, List.getElem?_eq_getElem hi] at hy
      cases hy
      have s3 := s2.trans (same_upd (o := HO.tup [V.int (i : Nat), V.int ns[i]]) hTn)
      rw [List.drop_eq_getElem_cons hi] at hm
      refine ⟨_, _, rfl, SqT.of upd_same, rfl, _, _, rfl, _, _, rfl, rfl, ?_⟩
      dsimp only
      refine ⟨_, rfl, _, .int ns[i], rfl, .int _, _, rfl, iteF ⟨_, rfl, _, rfl, _, _, rfl, rfl, _, rfl, ite2 (fun h => ?_) (fun _ => ?_)⟩⟩
      · have := of_decide_eq_true h
        have := hm.1
        omega
      · refine next_of ?_
        dsimp only
        exact ⟨_, rfl, s3, ns[i], _, _, hm.2, rfl⟩
    · rintro σ H2 ⟨s2, m, v2, v3, hm, rfl⟩
      exact k H2 s2
theorem ok_ckaA (T : D K mg) : FnOk P w K mg base CX0 3 T.f_check_asks T.d_check_asks ["given"] spAsksA := by
  refine T.U_check_asks.ok sc_cka (fun vs H Q E h => ?_) (fun cdv A outer s H vs Q E hr h => ?_)
  · obtain ⟨v, ns, rfl, _⟩ := h
    rfl
  · obtain ⟨v, ns, rfl, hA, ha, hl, k⟩ := h
    have nd := sc_cka.nd
    refine ⟨_, pss_cons (ps_if (pt_not (pt_val (pe_call (ok_rowA T) (hr.mono (by decide)) rfl T.g_is_tuple T.U_is_tuple.kp T.b_is_tuple .nil pass0 (pa_cons (pv 0) (pa_cons pe_int (pa_cons (pe_glob (v := .int 200) rfl T.g_LONGEST_ROW ⟨_, rfl⟩) pa_nil))))))
        (pss_one (ps_never))
        (pss_nil))
      (pss_cons (ps_set (i := 1) nd rfl (.inl rfl) (pe_call (ok_backA T) hr rfl T.g_first_back T.U_first_back.kp T.b_first_back .nil pass0 (pa_cons (pv 0) pa_nil)))
      (pss_one (ps_if (pt_cmpR op_notN (pv 1) pe_non (nomark _))
        (pss_one (ps_never))
        (pss_nil)))), ?_⟩
    refine ⟨_, rfl, v, ns, _, _, rfl, hA, Int.natCast_nonneg _, by omega, _, rfl, ?_⟩
    refine iteF (next_of ?_)
    dsimp only
    refine ⟨_, rfl, v, ns, rfl, hA, ha, fun H2 s2 => gn ?_⟩
    dsimp only
    exact ⟨_, rfl, rfl, _, rfl, iteF (k H2 s2)⟩
theorem ok_firstA (T : D K mg) (TB : Tabs base T) : FnOk P w K mg base CX0 4 T.f_first_wrong_ask T.d_first_wrong_ask ["rules", "asks"] (spFirstA (tabs T)) := by
  refine T.U_first_wrong_ask.ok sc_first (fun vs H Q E h => ?_) (fun cdv A outer s H vs Q E hr h => ?_)
  · obtain ⟨rv, av, ps, hs, ns, rfl, _⟩ := h
    rfl
  · obtain ⟨rv, av, ps, hs, ns, rfl, hR, h1, h0, hA, hT, k⟩ := h
    have nd := sc_first.nd
    refine ⟨_, pss_cons (ps_asg (pv 0) (pg_tup rfl (pgs_cons (pg_name (i := 2) nd rfl (.inl rfl)) (pgs_cons (pg_name (i := 3) nd rfl (.inl rfl)) pgs_nil))))
      (pss_cons (ps_for PassesOwn.never rfl (pi_enumT (by rfl) T.enumerate (pa_cons (pv 1) pa_nil)) (pg_tup rfl (pgs_cons (pg_name (i := 4) nd rfl (.inl rfl)) (pgs_cons (pg_name (i := 5) nd rfl (.inl rfl)) pgs_nil)))
        (pss_one (ps_if (PW.pt (pw_or (pt_not (pt_val (pe_call (ok_opens T) (hr.mono (by decide)) rfl T.g_opens T.U_opens.kp T.b_opens .nil pass0 (pa_cons (pv 3) (pa_cons (pv 5) pa_nil))))) (pw_or1 (pt_not (pt_val (pe_call (ok_apart T TB.c (L := tabs T) (by simp [tabs])) hr rfl T.g_keeps_apart T.U_keeps_apart.kp T.b_keeps_apart .nil pass0 (pa_cons (pv 2) (pa_cons (pe_slice sl_tupA (pv 1) po_none (po_some (pv 4))) (pa_cons (pv 5) pa_nil)))))))))
          (pss_one (ps_ret (pv 4)))
          (pss_nil))))
      (pss_one (ps_ret pe_non))), ?_⟩
    obtain ⟨ra, rxs, rfl, era, ora⟩ := od_tup hR
    obtain ⟨a, rfl, ea⟩ := hA
    match rxs, ora with
    | [lv, hv], .cons oL (.cons oH .nil) =>
    refine ⟨_, rfl, ra, _, rfl, SqT.of era, rfl, _, _, rfl, _, _, rfl, rfl, ?_⟩
    dsimp only
    refine ⟨_, rfl, a, _, rfl, (.inl ea), for_it (walk_tp (K := K) (a := a) (xs := ns.map V.int)) (fun i σ H2 => UpL (tabs T) H H2 ∧ (∀ j, j < i → politeAt ps hs ns j = true) ∧ ∃ (v4 v5 : Option V), σ = [some (.ref ra), some (.ref a), some lv, some hv, v4, v5]) ⟨.refl hT, fun _ h => absurd h (Nat.not_lt_zero _), none, none, rfl⟩ (fun i σ H2 _ q => .inl (rd_stay (q.1.stay hT) ea)) ?_ ?_⟩
    · rintro i x σ H2 H3 hi ⟨u2, hp, v4, v5, rfl⟩ ⟨Tt, y, rfl, hTn, rfl, hy⟩
      rw [List.length_map] at hi
      rw [List.getElem?_map, List.getElem?_eq_getElem hi] at hy
      cases hy
      have u3 := u2.trans (.same u2.1 (same_upd (o := HO.tup [V.int (i : Nat), V.int ns[i]]) hTn))
      refine ⟨_, _, rfl, SqT.of upd_same, rfl, _, _, rfl, _, _, rfl, rfl, ?_⟩
      dsimp only
      generalize upd H2 Tt (.tup [V.int (i : Nat), V.int ns[i]]) = H3 at *
      have st := u3.stay hT
      have ia : SqT K H3 a (ns.map V.int) := .inl (rd_stay st ea)
      have eg : ns.getD i 0 = ns[i] := by rw [List.getD_eq_getElem?_getD, List.getElem?_eq_getElem hi]; rfl
      have ep : politeAt ps hs ns i = (openI hs ns[i] && ps.all (apI (ns.take i) ns[i])) := by unfold politeAt; rw [eg]
      refine ⟨_, rfl, _, rfl, hv, hs, ns[i], rfl, oH.stay st, h0, _, rfl, ?_⟩
      cases ho : openI hs ns[i] with
      | false =>
        have q := k H3 u3
        rw [first_at hi hp (by rw [ep, ho]; rfl)] at q
        exact iteT (iteT ⟨_, rfl, q⟩)
      | true =>
        refine iteF ⟨_, rfl, _, rfl, _, rfl, _, rfl, sl_toF ia hi fun z H4 s4 iz => ?_⟩
        have u4 := u3.trans (.same u3.1 s4)
        refine ⟨_, rfl, lv, z, ns[i], ps, ns.take i, rfl, (oL.stay st).same s4, h1, iz.od, u4.1, fun H5 t5 => ⟨_, rfl, ?_⟩⟩
        have u5 := u4.trans t5
        cases ha : ps.all (apI (ns.take i) ns[i]) with
        | false =>
          have q := k H5 u5
          rw [first_at hi hp (by rw [ep, ho, ha]; rfl)] at q
          exact iteT ⟨_, rfl, q⟩
        | true =>
          refine iteF ⟨u5, fun j hj => ?_, _, _, rfl⟩
          by_cases z : j = i
          · rw [z, ep, ho, ha]; rfl
          · exact hp j (by omega)
    · rintro σ H2 ⟨u2, hp, v4, v5, rfl⟩
      rw [List.length_map] at hp
      have q := k H2 u2
      rw [first_none hp] at q
      exact q
-- POL
theorem ok_fwA (T : D K mg) (TB : Tabs base T) : FnOk P w K mg base CX0 8 T.f_first_wrong T.d_first_wrong ["rules", "asks"] (spFWA (tabs T)) := by
  refine T.U_first_wrong.ok sc_fw (fun vs H Q E h => ?_) (fun cdv A outer s H vs Q E hr h => ?_)
  · obtain ⟨rv, av, ps, hs, ns, rfl, _⟩ := h
    rfl
  · obtain ⟨rv, av, ps, hs, ns, rfl, hR, hA, R, hT, k⟩ := h
    refine ⟨_, pss_cons (ps_expr (pe_call (ok_ckr T TB) hr rfl T.g_check_rules T.U_check_rules.kp T.b_check_rules .nil pass0 (pa_cons (pv 0) pa_nil)))
      (pss_cons (ps_expr (pe_call (ok_ckaA T) (hr.mono (by decide)) rfl T.g_check_asks T.U_check_asks.kp T.b_check_asks .nil pass0 (pa_cons (pv 1) pa_nil)))
      (pss_one (ps_ret (pe_call (ok_firstA T TB) (hr.mono (by decide)) rfl T.g_first_wrong_ask T.U_first_wrong_ask.kp T.b_first_wrong_ask .nil pass0 (pa_cons (pv 0) (pa_cons (pv 1) pa_nil)))))), ?_⟩
    refine ⟨_, rfl, rv, _, rfl, hR, R.r, hT, fun H1 u1 => ?_⟩
    have st := u1.stay hT
    refine ⟨_, rfl, av, ns, rfl, hA.stay st, R.a, R.n, fun H2 s2 => ?_⟩
    have u2 := u1.trans (.same u1.1 s2)
    exact ⟨_, rfl, _, rfl, rv, av, ps, hs, ns, rfl, hR.stay (u2.stay hT), R.p, R.h, hA.stay (u2.stay hT), u2.1, fun H3 u3 => k H3 (u2.trans u3)⟩
theorem ok_polA (T : D K mg) (TB : Tabs base T) : FnOk P w K mg base CX0 9 T.f_is_polite T.d_is_polite ["rules", "asks"] (spPoliteA (tabs T)) := by
  refine T.U_is_polite.ok sc_pol (fun vs H Q E h => ?_) (fun cdv A outer s H vs Q E hr h => ?_)
  · obtain ⟨rv, av, ps, hs, ns, rfl, _⟩ := h
    rfl
  · obtain ⟨rv, av, ps, hs, ns, rfl, hR, hA, R, hT, k⟩ := h
    refine ⟨_, pss_one (ps_ret (pe_cmpR op_isN (pe_call (ok_fwA T TB) hr rfl T.g_first_wrong T.U_first_wrong.kp T.b_first_wrong .nil pass0 (pa_cons (pv 0) (pa_cons (pv 1) pa_nil))) pe_non (nomark _))), ?_⟩
    refine ⟨_, rfl, _, rfl, rv, av, ps, hs, ns, rfl, hR, hA, R, hT, fun H1 u1 => ⟨rfl, ?_⟩⟩
    have q := k H1 u1
    have e : decide (optV (firstI ps hs ns) = V.non) = (firstI ps hs ns).isNone := by
      cases firstI ps hs ns <;> rfl
    rw [e]
    exact q
-- MAY
end
end KP
set_option Elab.async false
set_option maxRecDepth 100000
set_option linter.all false
/-! Ours: where a row that asks too much goes wrong. -/
set_option Elab.async false
set_option maxRecDepth 100000
set_option maxHeartbeats 4000000
set_option linter.all false
/-! Ours: the next ask by four roads: the mathematics. -/
set_option Elab.async false
set_option maxRecDepth 100000
set_option maxHeartbeats 4000000
set_option linter.all false
/-! Ours: the law's call where tables of code objects may grow, by a promise for calls where no repr is under way. -/
namespace Gr
open PySem PySem.Spec PyProof.Rows L2 GxR
/-- what is tracked at the law's call: the tables at ts, and the script where it is not written -/
def startH (ts : List Addr) (a : Addr) (o : Option HO) : Hp := fun b => if b ∈ ts then some (.tbl #[]) else if b = a then o else none
theorem startH_tab {ts : List Addr} {a b : Addr} {o : Option HO} (h : b ∈ ts) : startH ts a o b = some (.tbl #[]) := if_pos h
theorem startH_at {ts : List Addr} {a : Addr} {o : Option HO} (h : a ∉ ts) : startH ts a o a = o := (if_neg h).trans (if_pos rfl)
theorem startH_inv {ts : List Addr} {a b : Addr} {o : Option HO} {u : HO} (h : startH ts a o b = some u) : (b ∈ ts ∧ u = .tbl #[]) ∨ (b ∉ ts ∧ b = a ∧ o = some u) := by
  unfold startH at h
  by_cases h1 : b ∈ ts
  · rw [if_pos h1] at h
    exact .inl ⟨h1, (Option.some.inj h).symm⟩
  · rw [if_neg h1] at h
    by_cases h2 : b = a
    · rw [if_pos h2] at h
      exact .inr ⟨h1, h2, h⟩
    · rw [if_neg h2] at h
      cases h
abbrev tabO (more : Array Value) : Obj := { cls := .none, data := .fields more }
theorem law_callQT {P : Program} {w : World} {K : PySem.W.Frag} {mg mb : Str → Option Value} {k : Nat} {fa a : Addr} {cs : List (Addr × Addr)} {fd : FuncData} {x : Str} {sp : Sp} {z : Shared} {vs : List Value} {ns : List Int}
    (KX : K.In z.heap) (G : z.heap.Ns mainGlobals mg) (B : z.heap.Ns builtinsNs mb) (B2 : ∀ x : Str, x ≠ "__name__" → mb x = bootBuiltins x) (L : z.heap.NoLimit) (G0 : z.gens = #[])
    (hT : ∀ p ∈ cs, z.heap.get? p.2 = some (tabO #[])) (nT : ∀ p ∈ cs, K.lookup p.2 = none) (C : ∀ p ∈ cs, PySem.W.CodeHd z.heap p.1 p.2)
    (M : ∃ (bm : Addr) (ob : Obj), mg "__builtins__" = some (.ref bm) ∧ bm ≠ builtinsNs ∧ z.heap.get? bm = some ob ∧ ob.cls = .type "module" ∧ ob.dict = some builtinsNs ∧ ob.data = .plain)
    (ha : z.heap.get? a = some { cls := .type "list", data := .seq vs.toArray }) (hi : IntsAre vs ns) (hl : ns.length ≤ sizeLine) (hr : Room k callerA)
    (F : ∀ base : Heap, K.In base → base.Ns mainGlobals mg → (∀ p ∈ cs, TabB base mg p.1 p.2) → FnQ P w K mg base CX0 k fa fd [x] sp) (hb : ∀ (s : Shared) (u : Value), BindsTo s fd ⟨[u], []⟩ [(x, u)])
    (hsp : ∀ H : Hp, (∀ p ∈ cs, H p.2 = some (.tbl #[])) → SqL K H a (ns.map V.int) → sp [.ref a] H (fun v _ => v = .bl true) fun _ _ _ => False) :
    codeAny (model P w) callerA (.call (.ref fa) ⟨[.ref a], []⟩) (fun r s' => r = .ok (.ret (.bool true)) ∧ OldK z.heap s'.heap ∧ s'.os = z.os ∧ AllBare s'.gens) z := by
  generalize hts : cs.map (·.2) = ts
  have inT : ∀ p ∈ cs, p.2 ∈ ts := fun p hp => by rw [← hts]; exact List.mem_map.mpr ⟨p, hp, rfl⟩
  have ofT : ∀ b ∈ ts, ∃ p ∈ cs, p.2 = b := fun b hb => by rw [← hts] at hb; exact List.mem_map.mp hb
  have atT : ∀ b ∈ ts, z.heap.get? b = some (tabO #[]) := fun b hb => by obtain ⟨p, hp, e⟩ := ofT b hb; rw [← e]; exact hT p hp
  have rv := vals_ints hi
  have lenV := hi.length
  have aT : a ∉ ts := fun q => by
    have e := ha.symm.trans (atT a q)
    cases e
  -- in both ways the script may stand: written, or tracked
  have core : ∀ o : Option HO, (o = none ∨ o = some (.frz { cls := .type "list", data := .seq vs.toArray } (.lst (ns.map V.int)))) → (o ≠ none → K.lookup a = none) → SqL K (startH ts a o) a (ns.map V.int) →
      codeAny (model P w) callerA (.call (.ref fa) ⟨[.ref a], []⟩) (fun r s' => r = .ok (.ret (.bool true)) ∧ OldK z.heap s'.heap ∧ s'.os = z.os ∧ AllBare s'.gens) z := by
    intro o ho hK hS
    generalize hH : startH ts a o = H at hS
    have tab : ∀ b ∈ ts, H b = some (.tbl #[]) := fun b q => by rw [← hH]; exact startH_tab q
    have inv : ∀ {b : Addr} {u : HO}, H b = some u → (b ∈ ts ∧ u = .tbl #[]) ∨ (b ∉ ts ∧ b = a ∧ u = .frz { cls := .type "list", data := .seq vs.toArray } (.lst (ns.map V.int)) ∧ K.lookup a = none) := fun {b u} e => by
      rw [← hH] at e
      rcases startH_inv e with q | ⟨q1, q2, q3⟩
      · exact .inl q
      · rcases ho with e1 | e1
        · rw [e1] at q3; cases q3
        · rw [e1] at q3
          exact .inr ⟨q1, q2, (Option.some.inj q3).symm, hK (by rw [e1]; exact fun q => nomatch q)⟩
    have hok : HOk P w H z.heap := fun b u e => by
      rcases inv e with ⟨q, rfl⟩ | ⟨_, rfl, rfl, _⟩
      · exact atT b q
      · exact ⟨ha, by rw [List.length_map]; exact hl, vs, _, rv, ha⟩
    -- what is neither a list nor an empty table is seen in the base
    have seen : ∀ {b : Addr} {ob : Obj}, z.heap.get? b = some ob → (∀ us n, ob.data ≠ .seq us n) → ob.data ≠ .fields #[] → (hidT z.heap H).get? b = some ob := fun {b ob} e h1 h2 => hidT_get e (by
      cases q : H b with
      | none => rfl
      | some u =>
        rcases inv q with ⟨q1, _⟩ | ⟨_, rfl, _, _⟩
        · rw [atT b q1] at e
          cases e
          exact absurd rfl h2
        · rw [ha] at e
          cases e
          exact absurd rfl (h1 _ _))
    have seenD : ∀ {b : Addr} {m : Str → Option Value}, z.heap.Ns b m → (hidT z.heap H).Ns b m := fun {b m} ⟨ob, es, ep, e, d, r⟩ =>
      ⟨ob, es, ep, seen e (fun us n q => by rw [d] at q; cases q) (fun q => by rw [d] at q; cases q), d, r⟩
    have KB : K.In (hidT z.heap H) := fun b ob e => hidT_get (KX b ob e) (by
      cases q : H b with
      | none => rfl
      | some u =>
        rcases inv q with ⟨q1, _⟩ | ⟨_, rfl, _, q2⟩
        · obtain ⟨p, hp, ep⟩ := ofT b q1
          rw [← ep, nT p hp] at e
          cases e
        · rw [q2] at e
          cases e)
    have MB : Mod K mg (hidT z.heap H) := ⟨KB, seenD G, ⟨mb, seenD B, B2⟩, let ⟨mc, h1, h2⟩ := L; ⟨mc, seenD h1, h2⟩⟩
    have TB : ∀ p ∈ cs, TabB (hidT z.heap H) mg p.1 p.2 := fun p hp => by
      refine ⟨?_, ?_, fun q => ?_⟩
      · obtain ⟨ob, us, file, tf, flags, tg, inF, text, tt, e1, r1, r2, r3, rest⟩ := C p hp
        refine ⟨ob, us, file, tf, flags, tg, inF, text, tt, seen e1 (fun us' n q => by rw [r2] at q; cases q) (fun q => ?_), r1, r2, r3, rest⟩
        rw [r2] at q
        cases q
        cases r3
      · obtain ⟨bm, ob, b1, b2, b3, b4, b5, b6⟩ := M
        refine ⟨bm, ob, b1, b2, fun q => ?_, fun q => ?_, seen b3 (fun us n q => by rw [b6] at q; cases q) (fun q => by rw [b6] at q; cases q), b4, b5, b6⟩
        · obtain ⟨ob', es, ep, e, hd, _⟩ := G
          rw [q, e] at b3
          cases b3
          rw [hd] at b6
          cases b6
        · rw [q, hT p hp] at b3
          cases b3
          cases b6
      · obtain ⟨ob, es, ep, e, hd, _⟩ := G
        rw [q, hT p hp] at e
        cases e
        cases hd
    have nofr : ∀ b, b ∉ frs ([] : List Env) := fun b q => nomatch q
    have e0 : Env0 P w K mg (hidT z.heap H) callerA [] z H := ⟨rfl, MB, fun b ob e => of_hidT e, Nat.le_of_eq (hidT_size _ _), trivial, fun b q => absurd q (nofr b), hok, .of_eq G0⟩
    refine codeAny_mono ((F _ KB (seenD G) TB).run callerA [] z H ⟨[.ref a], []⟩ [.ref a] [.ref a] _ _ rfl hr e0 (hb z (.ref a)) (.cons rfl .nil) (hsp H (fun p hp => tab _ (inT p hp)) hS)) fun r s' h => ?_
    match r, h with
    | .error e, h => exact False.elim h
    | .ok (.ret u), h =>
      obtain ⟨v, H', os, bare, un, hok', r', q⟩ := h
      have q' : v = .bl true := q
      subst q'
      obtain rfl : u = Value.bool true := r'
      have kept : ∀ b ob, b ∉ ts → z.heap.get? b = some ob → s'.heap.get? b = some ob := fun b ob nb e => by
        cases q : H b with
        | none => exact un.keep b ob e q (nofr b) (fun q => nomatch q)
        | some u =>
          rcases inv q with ⟨q1, _⟩ | ⟨_, _, rfl, _⟩
          · exact absurd q1 nb
          · have e1 := (hok b _ q).1
            have e2 := (hok' b _ (un.frzs b _ _ q)).1
            exact e2.trans (e1.symm.trans e)
      have more : ∀ b ∈ ts, ∃ m : Array Value, s'.heap.get? b = some (tabO m) := fun b q => by
        obtain ⟨m, e⟩ := un.tbls b #[] (tab b q)
        exact ⟨_, hok' b _ e⟩
      refine ⟨rfl, ⟨fun b ob e => ?_, fun b ob e => ?_⟩, os, bare⟩
      · by_cases hbt : b ∈ ts
        · obtain ⟨p, hp, rfl⟩ := ofT b hbt
          obtain ⟨m, e2⟩ := more _ hbt
          rw [hT p hp] at e
          cases e
          exact .inr (.inl ⟨((C p hp).tab (hT p hp)).isCodeTable, rfl, #[], m, rfl, by rw [Array.empty_append]; exact e2⟩)
        · exact .inl (kept b ob hbt e)
      · by_cases hbt : b ∈ ts
        · exact (more b hbt).elim fun m e2 => ⟨_, e2⟩
        · exact ⟨ob, kept b ob hbt e⟩
  cases hk : K.lookup a with
  | some ob =>
    have e := KX a ob hk
    rw [ha] at e
    cases e
    exact core none (.inl rfl) (fun q => absurd rfl q) (.inr ⟨_, vs.toArray, _, hk, rfl, rfl, rfl, by rw [List.size_toArray, lenV]; exact hl, by simpa using rv⟩)
  | none => exact core _ (.inr rfl) (fun _ => hk) (.inl (.inr ⟨_, startH_at aT⟩))
/-- what the head leaves, from such a promise -/
theorem walk_ofQT {l : PySem.W.OpenLaw} {n k : Nat} {q : Program} {loose : List Str} {XP : (Str → Option Value) → Heap → Prop} {YP : World → Heap → Prop} {d : DefRec} {K : Params → PySem.W.Frag} {x : Str}
    (hn : l.most = some n) (hn2 : n ≤ sizeLine) (hdf : d.params.defaults = []) (hr : Room k callerA) (hY : ∀ (w : World) (h : Heap), YP w h → (K w.params).In h)
    (F : ∀ (w : World) (mg : Str → Option Value) (fa : Addr) (h : Heap), YP w h → (K w.params).In h → h.Ns mainGlobals mg → mg d.name = some (.ref fa) →
      ∃ (fd : FuncData) (cs : List (Addr × Addr)) (sp : Sp), (∀ p ∈ cs, h.get? p.2 = some (tabO #[])) ∧ (∀ p ∈ cs, (K w.params).lookup p.2 = none) ∧ (∀ p ∈ cs, PySem.W.CodeHd h p.1 p.2) ∧ (∀ (s : Shared) (u : Value), BindsTo s fd ⟨[u], []⟩ [(x, u)]) ∧
        (∀ (H : Hp) (a : Addr) (ns : List Int), ns.length ≤ n → (∀ p ∈ cs, H p.2 = some (.tbl #[])) → SqL (K w.params) H a (ns.map V.int) → sp [.ref a] H (fun v _ => v = .bl true) fun _ _ _ => False) ∧
        ∀ base : Heap, (K w.params).In base → base.Ns mainGlobals mg → (∀ p ∈ cs, TabB base mg p.1 p.2) → FnQ l.prog w (K w.params) mg base CX0 k fa fd [x] sp) :
    PySem.W.WalkO q loose XP YP l.row.toRowW d [] (fun f vs => PySem.call f vs) := by
  refine Att.attach_call hn hdf fun w _ z mg _ fa _ _ _ _ a vs ns G Y _ _ _ hmg hobj hints hlen hg => ?_
  have KX := hY w _ Y
  obtain ⟨fd, cs, sp, hT, nT, C, hb, hsp, hF⟩ := F w mg fa _ Y KX G.T.g hmg
  exact law_callQT KX G.T.g G.T.b G.T.builtins G.T.nolimit hg hT nT C G.T.bmain hobj hints (Nat.le_trans hlen hn2) hr hF hb fun H hH hS => hsp H a ns hlen hH hS
end Gr
set_option Elab.async false
set_option maxRecDepth 100000
set_option maxHeartbeats 4000000
set_option linter.all false
/-! Ours: all but the well and the tables; facts of next asks as a row; soonest by name. -/
namespace KP
open PySem PySem.Spec PyProof.Rows L2 Gr GxR
def Mv {K : PySem.W.Frag} {mg : Str → Option Value} (T : D K mg) (p : Addr) (H H' : Hp) : Prop := (∀ b o, H b = some o → b ≠ p → (∀ ps, o ≠ .tbl ps) → H' b = some o) ∧ Well H' p ∧ Tb (tabs T) H'
section
variable {K : PySem.W.Frag} {mg : Str → Option Value} {T : D K mg} {p : Addr} {H H1 H2 : Hp}
theorem Mv.refl (w : Well H p) (h : Tb (tabs T) H) : Mv T p H H := ⟨fun _ _ e _ _ => e, w, h⟩
theorem Mv.trans (a : Mv T p H H1) (b : Mv T p H1 H2) : Mv T p H H2 := ⟨fun x o e n m => b.1 x o (a.1 x o e n m) n m, b.2⟩
theorem tab_but {q : Addr} (w : Well H p) (h : TabG H q) (b : But H H1 p) : TabG H1 q := by
  obtain ⟨ps, e, t⟩ := h
  refine ⟨ps, b _ _ e fun z => ?_, t⟩
  obtain ⟨_, _, _, ew⟩ := w
  rw [z, ew] at e
  cases e
theorem Mv.but (w : Well H p) (h : Tb (tabs T) H) (b : But H H1 p) (w1 : Well H1 p) : Mv T p H H1 := ⟨fun x o e n _ => b x o e n, w1, fun q hq => tab_but w (h q hq) b⟩
theorem Mv.up (w : Well H p) (h : Tb (tabs T) H) (u : UpL (tabs T) H H1) : Mv T p H H1 := by
  have s := u.stay h
  refine ⟨fun x o e _ m => s x o e m, ?_, u.1⟩
  obtain ⟨a, b, c, e⟩ := w
  exact ⟨a, b, c, s _ _ e (fun _ q => nomatch q)⟩
theorem Mv.same (w : Well H p) (h : Tb (tabs T) H) (s : Same H H1) : Mv T p H H1 := Mv.up w h (UpL.same h s)
theorem Mv.b (m : Mv T p H H1) (b : But H1 H2 p) (w : Well H2 p) : Mv T p H H2 := m.trans (Mv.but m.2.1 m.2.2 b w)
theorem Mv.s (m : Mv T p H H1) (s : Same H1 H2) : Mv T p H H2 := m.trans (Mv.same m.2.1 m.2.2 s)
theorem Mv.u (m : Mv T p H H1) (u : UpL (tabs T) H1 H2) : Mv T p H H2 := m.trans (Mv.up m.2.1 m.2.2 u)
end
end KP
set_option Elab.async false
set_option maxRecDepth 100000
set_option maxHeartbeats 4000000
set_option linter.all false
/-! Ours: a call with keywords that may raise; data for == ; what can be laid. -/
namespace Gr
open PySem PySem.Spec PyProof.Rows L2 GxR
mutual
theorem Od.dp {K : PySem.W.Frag} {H : Hp} : ∀ {v : V} {d : PyData}, Od H v d → tupD d = true → Dp K H v d
  | _, _, .non, _ => .non
  | _, _, .bl b, _ => .bl b
  | _, _, .int i, _ => .int i
  | _, _, .str x, _ => .str x
  | _, _, .lst e a, h => by simp [tupD] at h
  | _, _, .tup e a, h => .tup (SqT.of e) (OdAll.dp a (by simpa [tupD] using h))
  | _, _, .dic e a b, h => by simp [tupD] at h
theorem OdAll.dp {K : PySem.W.Frag} {H : Hp} : ∀ {vs : List V} {ds : List PyData}, OdAll H vs ds → tupDs ds = true → DpAll K H vs ds
  | _, _, .nil, _ => .nil
  | _, _, .cons a b, h => by
    simp only [tupDs, Bool.and_eq_true] at h
    exact .cons (Od.dp a h.1) (OdAll.dp b h.2)
end
/-- what == takes -/
def Shp (k : Nat) (d : PyData) : Prop := d.canLay0 = true ∧ d.depth ≤ k
theorem Shp.ok {k : Nat} {d : PyData} (h : Shp k d) (a : k ≤ 64 := by decide) : SeqAt.shaped d = true := by
  unfold SeqAt.shaped
  rw [Bool.and_eq_true, decide_eq_true_eq]
  exact ⟨h.1, Nat.le_trans h.2 a⟩
theorem Shp.mono {k j : Nat} {d : PyData} (h : Shp k d) (a : k ≤ j) : Shp j d := ⟨h.1, Nat.le_trans h.2 a⟩
end Gr
set_option Elab.async false
set_option maxRecDepth 100000
set_option maxHeartbeats 4000000
set_option linter.all false
/-! Ours: a field as one of several targets; a method's call that may raise within a try. -/
namespace Gr
open PySem PySem.Spec PyProof.Rows L2 GxR
def tMethX (C : Addr) (m : Str) (sp : Sp) (dvs : List V) (E : L2.St → XK) (ta : TE) (t : TA) : TE := fun σ H Q => ta σ H fun x H1 => ∃ a dx fs, x = .ref a ∧ H1 a = some (.ins C dx fs) ∧ fs.lookup m = none ∧
  t σ H1 fun vs H2 => sp (x :: (vs ++ dvs)) H2 Q (E σ)
section
variable {X : Cx} {CX : CXT} {k : Nat} {f C : Addr} {fd : FuncData} {ps : List Str} {sp : Sp} {dvs : List V} {ds : List Value} {E : L2.St → XK} {x m : Str} {p pos apos : Pos} {e o : Expr} {es : List Expr} {ta : TE} {t : TA}
theorem run_fnX {pins : List (Addr × Obj)} {σ : L2.St} {H : Hp} {s : Shared} {Q : VK} {us : List Value} {vs : List V} {E : XK} (F : FnOk X.prog X.w X.K X.mg X.base CX k f fd ps sp) (hr : Room k X.A) (hb : Binds X.K fd ps ds) (hd : Vals dvs ds) (hx : PassesAt CX X σ E)
    (I : Inv X pins σ H s) (r : Vals vs us) (h : sp (vs ++ dvs) H Q E) : wpAny (model X.prog X.w) X.A (call (.ref f) us) (EP X pins σ Q) X.xe s := by
  have r2 : Vals (vs ++ dvs) (us ++ ds) := r.append hd
  have hl : (us ++ ds).length = ps.length := by rw [← r2.length]; exact F.len _ _ _ _ h
  refine wpAny_call (codeAny_mono (F.run X.A X.stack s H ⟨us, []⟩ (us ++ ds) (vs ++ dvs) Q E hr I.env0 (hb s us I.kIn hl) r2 h) fun r s' hq => ?_)
  cases r with
  | error e => exact hx pins H s e s' I hq
  | ok fl =>
    cases fl with
    | ret u => exact I.after hq
    | next => exact False.elim hq
    | brk => exact False.elim hq
    | cont => exact False.elim hq
/-- o.m(e, ..) that may raise -/
theorem pe_methX {pl : Sem Bool} (he : PE X o ta) (c : Cls X.K C) (hm : Meth X.K C m f) (F : FnOk X.prog X.w X.K X.mg X.base CX k f fd ps sp) (hr : Room k X.A) (hb : Binds X.K fd ps ds) (hd : Vals dvs ds) (hx : ∀ σ, PassesAt CX X σ (E σ)) (ha : PA X (e :: es) t)
    (hst : starEach (e :: es) X.env = (false, eval e X.env) :: starEach es X.env := by rfl) (hpl : (backTo pos (starEach es X.env)).any (·.1) = false := by rfl)
    (ht : eval (.Call (.Attribute o m apos) (e :: es) [] pos) X.env = (do
      let ov ← eval o X.env
      standAt apos.atName
      let (f, first) ← holding [ov] (getMethod ov m pl)
      callWith pos f first (backTo pos (starEach (e :: es) X.env)) (backToKw pos (keywordEach [] X.env))) := by rfl) :
    PE X (.Call (.Attribute o m apos) (e :: es) [] pos) (tMethX C m sp dvs E ta t) := by
  refine ⟨fun pins s σ H Q I h => ?_⟩
  refine PySem.W.methodCall_KW (pl := pl) (thn (he.run pins s σ H _ I h) fun u s1 ⟨x, H1, I1, rx, a, dx, fs, ex, ea, l, q⟩ => ?_) ht
  subst ex
  obtain rfl : u = Value.ref a := rx
  refine getmeth_ok I1 ea c hm l ?_
  refine PySem.W.callWith_K (first := [.ref a]) (h₀ := X.base) I.ok.mod.kin hm.kp (thn (ha.run pos pins s1 σ H1 _ I1 q) fun us s2 ⟨vs, H2, I2, r, q2⟩ => ⟨I2.kIn, ?_⟩) hst hpl
  exact run_fnX (us := .ref a :: us) (vs := .ref a :: vs) F hr hb hd (hx σ) I2 (.cons rfl r) q2
end
end Gr
set_option Elab.async false
set_option maxRecDepth 100000
set_option maxHeartbeats 4000000
set_option linter.all false
/-! Ours: an own exception class with its own __init__, made as a value by position or by keyword; its fields read; isinstance of it. -/
namespace PySem
end PySem
set_option Elab.async false
set_option maxRecDepth 100000
set_option maxHeartbeats 4000000
set_option linter.all false
namespace Gr
open PySem PySem.Spec PyProof.Rows L2
/-! ### own exceptions as values -/
end Gr
set_option Elab.async false
set_option maxRecDepth 100000
set_option maxHeartbeats 4000000
set_option linter.all false
namespace PySem
end PySem
namespace Gr
open PySem PySem.Spec PyProof.Rows L2
/-- an error of the class at C stands at a: by its own __init__, with its dict, or of a class without one -/
inductive Err (H : Hp) (a C : Addr) : Prop
  | own (dx : Addr) (fs : List (Str × V)) (h1 : H a = some (exo a C (some dx))) (h2 : H dx = some (exd dx fs))
  | bare (h1 : H a = some (ExO (.ref C) a))
theorem Err.same {H H' : Hp} {a C : Addr} (e : Same H H') (h : Err H a C) : Err H' a C := by
  cases h with
  | own dx fs h1 h2 => exact .own dx fs (e _ _ h1) (e _ _ h2)
  | bare h1 => exact .bare (e _ _ h1)
end Gr
set_option Elab.async false
set_option maxRecDepth 100000
set_option maxHeartbeats 4000000
set_option linter.all false
/-! Ours: the law's call, by a promise for calls where no repr is under way. -/
namespace Gr
open PySem PySem.Spec PyProof.Rows L2
end Gr
set_option Elab.async false
set_option maxRecDepth 100000
set_option maxHeartbeats 4000000
set_option linter.all false
/-! Ours: own error classes whose __init__ keeps one value; lists of such errors; isinstance of an error against a list of classes. -/
namespace Gr
open PySem PySem.Spec PyProof.Rows L2
/-! ### the text of such an __init__ -/
def iArgs (f : Str) (p1 p2 : Pos) : Arguments := { posonlyargs := [], args := [{ arg := "self", annotation := none, pos := p1 }, { arg := f, annotation := none, pos := p2 }], vararg := none, kwonlyargs := [], kw_defaults := [], kwarg := none, defaults := [] }
def iBody (f : Str) (q1 q2 q3 q4 : Pos) : List Stmt := [.Assign [.Attribute (.Name "self" q1) f q2] (.Name f q3) q4]
def iScope (f : Str) : Scope := { kind := .function, names := [(PySem.Str.ofString "self", .local), (f, .local)], isGenerator := false, isCoroutine := false, more := [] }
def Fld (f : Str) : Prop := f = "given" ∨ f = "index"
/-- the __init__ of the class at C -/
structure InitAt (K : PySem.W.Frag) (C fI : Addr) (fd : FuncData) (f : Str) : Prop where
  iC : PySem.W.findIn K (.ref C) "__init__" = some (some (.ref fI))
  tI : PySem.W.typeIn K (.ref fI) = some (.type "function")
  ex : ∃ (q : Str) (oc : Value) (od : Option Addr) (doc pm : Value) (an : Option Addr) (cdv ct : Value) (osl : Array (Option Value)) (p1 p2 q1 q2 q3 q4 : Pos),
    fd = PySem.W.fnOf "__init__" q (iArgs f p1 p2) (iBody f q1 q2 q3 q4) (iScope f) .none .none doc pm an cdv ct ∧ K.lookup fI = some ⟨oc, od, .func fd, osl⟩ ∧ PySem.W.codeIn K cdv q = true
def spInit (K : PySem.W.Frag) (f : Str) : Sp := fun vs H Q _ => ∃ (a C : Addr) (y : V), vs = [.ref a, y] ∧ OexC K C ∧ PySem.W.findIn K (.ref C) f = some none ∧ H a = some (exo a C none) ∧
  ∀ dx, H dx = none → dx ≠ a → Q .non (upd (upd H dx (exd dx [(f, y)])) a (exo a C (some dx)))
section
variable {P : Program} {w : World} {K : PySem.W.Frag} {mg : Str → Option Value} {base : Heap}
theorem scInit {f : Str} (hf : Fld f) : FnScope ["self", f] ["self", f] (iScope f) := by
  rcases hf with rfl | rfl <;> exact ⟨rfl, rfl, rfl, by decide +kernel, rfl, by decide +kernel, by decide +kernel⟩
theorem InitAt.ok {C fI : Addr} {fd : FuncData} {f : Str} (I : InitAt K C fI fd f) (hf : Fld f) : FnOk P w K mg base CX0 1 fI fd ["self", f] (spInit K f) := by
  obtain ⟨q, oc, od, doc, pm, an, cdv, ct, osl, p1, p2, q1, q2, q3, q4, rfl, lk, hcd⟩ := I.ex
  refine fn_of lk hcd (scInit hf) (fun vs H Q E h => ?_) (fun A outer s H vs Q E hr h => ?_)
  · obtain ⟨a, C, y, rfl, _⟩ := h
    rfl
  · obtain ⟨a, C, y, rfl, T, hno, ha, k⟩ := h
    rcases hf with rfl | rfl
    · refine ⟨_, PSs.nox (pss_one (ps_ost (pv 0) (pv 1))), ?_⟩
      exact ⟨_, rfl, _, rfl, a, C, rfl, T, hno, .inl ⟨ha, k⟩⟩
    · refine ⟨_, PSs.nox (pss_one (ps_ost (pv 0) (pv 1))), ?_⟩
      exact ⟨_, rfl, _, rfl, a, C, rfl, T, hno, .inl ⟨ha, k⟩⟩
end
/-! ### errors that are kept -/
/-- at a: an error of the class at C that keeps y under f -/
def ErrV (H : Hp) (a C : Addr) (f : Str) (y : V) : Prop := ∃ dx, H a = some (exo a C (some dx)) ∧ H dx = some (exd dx [(f, y)])
theorem ErrV.same {H H' : Hp} {a C : Addr} {f : Str} {y : V} (e : Same H H') (h : ErrV H a C f y) : ErrV H' a C f y := by
  obtain ⟨dx, h1, h2⟩ := h
  exact ⟨dx, e _ _ h1, e _ _ h2⟩
/-! ### isinstance of one error against many classes -/
end Gr
set_option Elab.async false
set_option maxRecDepth 100000
set_option maxHeartbeats 4000000
set_option linter.all false
/-! Ours: try with several clauses «except C as n», the same n in each. -/
namespace Gr
open PySem PySem.Spec PyProof.Rows L2
section
variable {X : Cx} {body : List Stmt} {h₀ : ExceptHandler} {hds : List ExceptHandler} {l : List (Value × (Addr → Value → Option Addr → TS))} {pos : Pos} {tb : WX → TS} {Wout : WX} {n : Str} {i : Nat}
/-- raise C(), an own class without __init__ -/
theorem pmk_exc0 {C : Addr} {bmB : List Value} {B newId initId : String} {x : Str} {p pos : Pos} (F : ExcBaseFacts B newId initId bmB) (q : PySem.W.excIn X.K C bmB newId = true) (gC : X.mg x = some (.ref C)) (kC : PySem.W.keepIn X.K (.ref C) = true) (r : Raises X (.ref C)) (hg : Gl X x)
    (hdb : (x == ("__debug__" : Str)) = false := by decide) : PMk X (.Call (.Name x p) [] [] pos) (fun _ H Q => Q (.ref C) none H) := by
  intro pins s σ H Q I h
  refine wpAny_Call_Name_kw (ld_glob I hg gC (PySem.W.callWith_K0 I.kIn kC ?_) hdb)
  show wpAny _ _ (call (.ref C) []) _ _ _
  obtain ⟨bm, N, nm, qn, bs, hdct, sn, sub, ab, col, dd, k0, k1, k2, k3, k5, mN, hC, hN, hni, T⟩ := exc_obj I.kIn q
  obtain ⟨hp, g, d, t, os⟩ := s
  refine wpAny_call_exc_subT F T hC hN hni (fun h' a hm => ?_) (by show 0 ≤ sizeLine; exact Nat.zero_le _)
  exact mk_of I hm r h (I.hok.gone hm.new)
end
end Gr
set_option Elab.async false
set_option maxRecDepth 100000
set_option maxHeartbeats 4000000
set_option linter.all false
/-! Ours: a monitor with all that it came from. -/
namespace KP
open PySem PySem.Spec PyProof.Rows L2 Gr GxR
structure BarF (K : PySem.W.Frag) (mg : Str → Option Value) (C : Addr) : Prop where
  g : mg "Barred" = some (.ref C)
  x : PySem.W.excIn K C [.type "ValueError", .type "Exception", .type "BaseException", .type "object"] "ValueError.__new__" = true
  k : PySem.W.keepIn K (.ref C) = true
  b : PySem.W.subIn K (.ref C) (.type "BaseException") = some true
  t : PySem.W.typeIn K (.ref C) = some (.type "type")
  e : PySem.W.exmOne K (.ref C) (.ref C) = some true
def IsE (H : Hp) (L : Nat) (v : V) (e : List Int × Int) : Prop := ∃ (x : Addr) (cv : V), v = .ref x ∧ H x = some (.tup [.int e.2, cv, .int ((e.1.count e.2 : Nat) : Int)]) ∧ IsI H cv (cntL e.1 e.2 L)
theorem IsI.ts {H H' : Hp} {v : V} {ns : List Int} (h : IsI H v ns) (s : TupStay H H') : IsI H' v ns := by
  obtain ⟨a, rfl, e⟩ := h
  exact ⟨a, rfl, s _ _ e⟩
theorem IsE.ts {H H' : Hp} {L : Nat} {v : V} {e : List Int × Int} (h : IsE H L v e) (s : TupStay H H') : IsE H' L v e := by
  obtain ⟨x, cv, e1, e2, e3⟩ := h
  exact ⟨x, cv, e1, s _ _ e2, e3.ts s⟩
def EsAt (H : Hp) (L : Nat) : List V → List (List Int × Int) → Prop
  | [], [] => True
  | v :: es, e :: st => IsE H L v e ∧ EsAt H L es st
  | _, _ => False
theorem EsAt.len {H : Hp} {L : Nat} : ∀ {es : List V} {st : List (List Int × Int)}, EsAt H L es st → es.length = st.length
  | [], [], _ => rfl
  | _ :: _, _ :: _, h => by rw [List.length_cons, List.length_cons, EsAt.len h.2]
  | [], _ :: _, h => h.elim
  | _ :: _, [], h => h.elim
theorem EsAt.ts {H H' : Hp} {L : Nat} (s : TupStay H H') : ∀ {es : List V} {st : List (List Int × Int)}, EsAt H L es st → EsAt H' L es st
  | [], [], _ => trivial
  | _ :: _, _ :: _, h => ⟨h.1.ts s, EsAt.ts s h.2⟩
  | [], _ :: _, h => h.elim
  | _ :: _, [], h => h.elim
theorem EsAt.snoc {H : Hp} {L : Nat} {v : V} {e : List Int × Int} (k : IsE H L v e) : ∀ {es : List V} {st : List (List Int × Int)}, EsAt H L es st → EsAt H L (es ++ [v]) (st ++ [e])
  | [], [], _ => ⟨k, trivial⟩
  | _ :: _, _ :: _, h => ⟨h.1, EsAt.snoc k h.2⟩
  | [], _ :: _, h => h.elim
  | _ :: _, [], h => h.elim
section
variable {K : PySem.W.Frag} {mg : Str → Option Value}
def MonS (T : D K mg) (H : Hp) (a ea : Addr) (stk : List (List Int × Int)) (rv : V) (ps : List (Int × Int)) (hs ns : List Int) (t : Int) : Prop :=
  ∃ (dx : Addr) (cv : V) (es : List V), H a = some (.ins T.C_Monitor dx (monF rv t cv ((ns.count t : Nat) : Int) ea)) ∧ H ea = some (.lst es) ∧ EsAt H (spanP ps).toNat es stk ∧ IsI H cv (cntL ns t (spanP ps).toNat) ∧ Od H rv (rulesP ps hs)
variable {T : D K mg} {H H' : Hp} {a ea : Addr} {stk : List (List Int × Int)} {rv : V} {ps : List (Int × Int)} {hs ns : List Int} {t : Int}
theorem MonS.ts (h : MonS T H a ea stk rv ps hs ns t) (s : TupStay H H') (ha : H' a = H a) (he : H' ea = H ea) : MonS T H' a ea stk rv ps hs ns t := by
  obtain ⟨dx, cv, es, h1, h2, h3, h4, h5⟩ := h
  exact ⟨dx, cv, es, ha.trans h1, he.trans h2, h3.ts s, h4.ts s, h5.ts s (tup_rules ps hs)⟩
theorem MonS.same (h : MonS T H a ea stk rv ps hs ns t) (s : Same H H') : MonS T H' a ea stk rv ps hs ns t := by
  obtain ⟨dx, cv, es, h1, h2, _⟩ := id h
  exact h.ts (same_ts s) ((s _ _ h1).trans h1.symm) ((s _ _ h2).trans h2.symm)
theorem MonS.at (h : MonS T H a ea stk rv ps hs ns t) : MonAt T H a ea stk.length rv ps hs ns t := by
  obtain ⟨dx, cv, es, h1, h2, h3, h4, h5⟩ := h
  exact ⟨dx, cv, es, h1, h2, Nat.le_of_eq h3.len, h4, h5⟩
theorem MonS.new (h : MonAt T H a ea 0 rv ps hs ns t) : MonS T H a ea [] rv ps hs ns t := by
  obtain ⟨dx, cv, es, h1, h2, h3, h4, h5⟩ := h
  obtain rfl : es = [] := List.length_eq_zero_iff.mp (by omega)
  exact ⟨dx, cv, [], h1, h2, trivial, h4, h5⟩
end
def spAskS {K : PySem.W.Frag} {mg : Str → Option Value} (T : D K mg) (C : Addr) : Sp := fun vs H Q E => ∃ (a ea : Addr) (stk : List (List Int × Int)) (rv : V) (ps : List (Int × Int)) (hs ns : List Int) (t u : Int) (n : Nat), vs = [.ref a, .int u, .int (n : Nat)] ∧ MonS T H a ea stk rv ps hs ns t ∧ a ≠ ea ∧ Good ps hs ∧ Stn ps hs ns t ∧ t ≤ u ∧ n ≤ 100 ∧ stk.length ≤ 4000 ∧
  (mayI ps hs ns u (n : Nat) = true → ∀ H', (∀ b o, H b = some o → b ≠ a → b ≠ ea → H' b = some o) → MonS T H' a ea (stk ++ [(ns, t)]) rv ps hs (ns ++ List.replicate n u) u → Q .non H') ∧ (mayI ps hs ns u (n : Nat) = false → ∀ H', Same H H' → E (.ref C) none H')
section
variable {P : Program} {w : World} {K : PySem.W.Frag} {mg : Str → Option Value} {base : Heap} {C : Addr}
theorem ok_asks (T : D K mg) (B : BarF K mg C) : FnOk P w K mg base (L2.CX P w) 7 T.f_ask T.d_ask ["self", "moment", "many"] (spAskS T C) := by
  refine T.W_ask.ok sc_askm (fun vs H Q E h => ?_) (fun cdv A outer s H vs Q E hr h => ?_)
  · obtain ⟨a, ea, k, rv, ps, hs, ns, t, u, n, rfl, _⟩ := h
    rfl
  · obtain ⟨a, ea, stk, rv, ps, hs, ns, t, u, n, rfl, hS, nae, g, st, hu, n1, k4, kY, kN⟩ := h
    have hM := hS.at
    have nd := sc_askm.nd
    have mz : 5000 ≤ sizeLine := by decide
    refine ⟨_, pss_cons (ps_if (pt_not (pt_val (pe_meth (pv 0) T.cl_Monitor T.M_lets (ok_letm T) hr T.b_lets .nil pass0 (pa_cons (pv 1) (pa_cons (pv 2) pa_nil)))))
        (pss_one (ps_raise rfl (takes_of rfl rfl rfl rfl) (pmk_exc0 PySem.F.excBase_ValueError B.x B.g B.k (raises_own B.b B.t) rfl)))
        (pss_nil))
      (pss_cons (ps_set (i := 3) nd rfl (.inl rfl) (pe_meth (pv 0) T.cl_Monitor T.M__counts_then (ok_ctm T) (hr.mono (by decide)) T.b__counts_then .nil pass0 (pa_cons (pv 1) pa_nil)))
      (pss_cons (ps_set (i := 4) nd rfl (.inl rfl) (pe_op op_add (pe_meth (pv 0) T.cl_Monitor T.M__asked_then (ok_atm T) (hr.mono (by decide)) T.b__asked_then .nil pass0 (pa_cons (pv 1) pa_nil)) (pv 2)))
      (pss_cons (ps_expr (pe_bm PySem.F.plainAttrs_list PySem.F.slot_list_append PySem.F.type_list_append mt_append (pe_fld (pv 0) rfl) (pa_cons (pe_tup (pa_cons (pe_fld (pv 0) rfl) (pa_cons (pe_fld (pv 0) rfl) (pa_cons (pe_fld (pv 0) rfl) pa_nil)))) pa_nil)))
      (pss_cons (ps_fld (pv 0) (pv 1) rfl)
      (pss_cons (ps_fld (pv 0) (pv 3) rfl)
      (pss_one (ps_fld (pv 0) (pv 4) rfl))))))), ?_⟩
    obtain ⟨dx, cv, es, h1, h2, h3, h4, h5⟩ := id hS
    have h3l := h3.len
    refine ⟨_, rfl, a, _, _, rfl, h1, rfl, _, rfl, _, rfl, a, ea, stk.length, rv, ps, hs, ns, t, u, (n : Nat), rfl, hM, g, st, hu, by omega, by omega, fun H1 s1 => ⟨_, rfl, ?_⟩⟩
    cases hmay : mayI ps hs ns u (n : Nat) with
    | false =>
      refine iteT ?_
      exact kN hmay H1 s1
    | true =>
    refine iteF (next_of ?_)
    dsimp only
    refine ⟨_, rfl, a, _, _, rfl, s1 _ _ h1, rfl, _, rfl, a, ea, stk.length, rv, ps, hs, ns, t, u, rfl, hM.same s1, g, st.top, hu, fun z H2 s2 iz => gn ?_⟩
    have s12 := s1.trans s2
    dsimp only
    refine ⟨_, rfl, a, _, _, rfl, s12 _ _ h1, rfl, _, rfl, a, ea, stk.length, rv, ps, hs, ns, t, u, rfl, hM.same s12, _, rfl, _, _, rfl, rfl, gn ?_⟩
    dsimp only
    have e1 := s12 _ _ h1
    refine ⟨_, rfl, a, _, _, _, _, rfl, e1, T.cl_Monitor, T.n__earlier, rfl, .inl ⟨rfl, _, SqL.of (s12 _ _ h2)⟩, _, rfl, a, _, _, _, _, rfl, e1, T.cl_Monitor, T.n__moment, rfl, _, rfl, a, _, _, _, _, rfl, e1, T.cl_Monitor, T.n__counts, rfl, _, rfl, a, _, _, _, _, rfl, e1, T.cl_Monitor, T.n__asked, rfl, by show 3 ≤ sizeLine; omega, fun y hy => ?_⟩
    have s3 := same_upd (o := HO.tup [V.int t, cv, V.int ((ns.count t : Nat) : Int)]) hy
    have s13 := s12.trans s3
    replace iz := iz.same s3
    have e13 := s13 _ _ h1
    have e23 := s13 _ _ h2
    have o53 := h5.same s13
    have ie : IsE (upd H2 y (.tup [V.int t, cv, V.int ((ns.count t : Nat) : Int)])) (spanP ps).toNat (.ref y) (ns, t) := ⟨y, cv, rfl, upd_same, h4.same s13⟩
    have h33 := EsAt.snoc ie (h3.ts (same_ts s13))
    generalize upd H2 y (.tup [V.int t, cv, V.int ((ns.count t : Nat) : Int)]) = H3 at *
    refine ⟨ea, es, _, rfl, rfl, e23, by omega, ?_⟩
    have f1 : upd H3 ea (.lst (es ++ [V.ref y])) a = _ := (upd_ne nae).trans e13
    have f2 : upd H3 ea (.lst (es ++ [V.ref y])) ea = some (.lst (es ++ [V.ref y])) := upd_same
    have fr : ∀ b o, H b = some o → b ≠ a → b ≠ ea → upd H3 ea (.lst (es ++ [V.ref y])) b = some o := fun b o e n1 n2 => (upd_ne n2).trans (s13 _ _ e)
    have ts3 : TupStay H3 (upd H3 ea (.lst (es ++ [V.ref y]))) := ts_put e23
    have iz4 : IsI (upd H3 ea (.lst (es ++ [V.ref y]))) z (cntL ns u (spanP ps).toNat) := iz.ts ts3
    have o54 := o53.ts ts3 (tup_rules ps hs)
    have h34 := h33.ts ts3
    generalize upd H3 ea (.lst (es ++ [V.ref y])) = H4 at *
    refine ⟨_, rfl, _, rfl, a, _, _, _, rfl, f1, T.cl_Monitor, T.n__moment, by show 5 < 1000; decide, ?_⟩
    refine ⟨_, rfl, _, rfl, a, _, _, _, rfl, upd_same, T.cl_Monitor, T.n__counts, by show 5 < 1000; decide, ?_⟩
    refine ⟨_, rfl, _, rfl, a, _, _, _, rfl, upd_same, T.cl_Monitor, T.n__asked, by show 5 < 1000; decide, ?_⟩
    have tsA : ∀ (G : Hp) (o o' : HO), G a = some (.ins T.C_Monitor dx (monF rv t cv ((ns.count t : Nat) : Int) ea)) → TupStay G (upd (upd (upd G a o) a o') a (.ins T.C_Monitor dx (monF rv u z ((if u = t then ((ns.count t : Nat) : Int) else 0) + (n : Nat)) ea))) := fun G o o' e b xs q => by
      have : b ≠ a := fun w => by rw [w, e] at q; cases q
      rw [upd_ne this, upd_ne this, upd_ne this]
      exact q
    refine kY hmay _ (fun b o e n1 n2 => ?_) ?_
    · rw [upd_ne n1, upd_ne n1, upd_ne n1]
      exact fr b o e n1 n2
    · have ec : ((if u = t then ((ns.count t : Nat) : Int) else 0) + (n : Nat)) = (((ns ++ List.replicate n u).count u : Nat) : Int) := by
        rw [← cnt_ask st.top hu n]
        split <;> omega
      refine ⟨dx, z, es ++ [V.ref y], ?_, ?_, h34.ts (tsA H4 _ _ f1), ?_, ?_⟩
      · rw [← ec]
        exact upd_same
      · rw [upd_ne (Ne.symm nae), upd_ne (Ne.symm nae), upd_ne (Ne.symm nae)]
        exact f2
      · rw [cntL_ask]
        exact iz4.ts (tsA H4 _ _ f1)
      · exact o54.ts (tsA H4 _ _ f1) (tup_rules ps hs)
end
end KP
set_option Elab.async false
set_option maxRecDepth 100000
set_option maxHeartbeats 4000000
set_option linter.all false
/-! Ours: quiet code: len and items of a list; loops of two fors. -/
namespace Gr
open PySem PySem.Spec PyProof.Rows L2 GxR
section
variable {P : Program} {w : World} {K : PySem.W.Frag} {mg : Str → Option Value} {base h0 : Heap} {k : Nat} {env : Env} {m : Str → Option Value}
theorem vd_lst {h : Heap} {y : Value} {ds : List PyData} (r : Vd h y (.list ds)) : ∃ t its, y = .ref t ∧ h.IsList t its ∧ VdAll h its.toList ds := by
  obtain ⟨as, r⟩ := r
  cases r with
  | list h1 h2 h3 h4 => exact ⟨_, _, rfl, ⟨_, h1, h2, _, h3⟩, vd_all h4⟩
theorem qe_lenL {e : Expr} {p1 pos : Pos} {ds : List PyData} (C : Qc K mg base env) (he : QE P w base h0 k env m e (.list ds)) (hg : env.scope.names.lookup ("len" : Str) = some .globalImplicit) (hm : mg "len" = none) (hl : ds.length ≤ sizeLine)
    (hs : starEach [e] env = (false, eval e env) :: starEach [] env := by rfl) (hpl : (backTo pos (starEach [] env)).any (·.1) = false := by rfl) :
    QE P w base h0 k env m (.Call (.Name "len" p1) [e] [] pos) (.int ds.length) := by
  intro B E z q
  refine wpAny_Call_Name_kw (q_blt C q hg hm PySem.boot_len (PyProof.Rows.callWith_builtin1 ?_ hs hpl))
  rw [hs]
  show wpAny _ _ (spliced ((false, eval e env) :: backTo pos (starEach [] env))) _ _ z
  refine Calls.spliced_cons (thn (he B E z q) fun u z1 ⟨r1, k1⟩ => Calls.spliced_nil ?_)
  obtain ⟨t, its, rfl, ht, ha⟩ := vd_lst r1
  have hn := line63
  have hz : its.size = ds.length := by
    have := ha.len
    rw [← this, Array.length_toList]
  refine len_list ht (by rw [hz]; omega) ⟨?_, kt k1 (keeps_tok _ _)⟩
  rw [hz]
  exact ⟨_, .int _ _⟩
def items_at (i : Int) (its : Array Value) : Option Value := if 0 ≤ i then its[i.toNat]? else its[(i + its.size).toNat]?
theorem qe_ixAL {e sl : Expr} {i : Int} {pos : Pos} {ds : List PyData} {d : PyData} (he : QE P w base h0 k env m e (.list ds)) (hi : QE P w base h0 k env m sl (.int i)) (ha : atI ds i = some d) (hl : ds.length ≤ sizeLine) (hs : ∀ o v, subscripted sl false o v = operate [o, v] (getItem o v) := by intro _ _; with_unfolding_all rfl) :
    QE P w base h0 k env m (.Subscript e sl pos) d := by
  intro B E z q
  refine Subscript_ (thn (he B E z q) fun u z1 ⟨r1, k1⟩ => thn (hi B E z1 (q.next k1)) fun x z2 ⟨r2, k2⟩ => ?_)
  obtain ⟨t, its, rfl, ht, hall⟩ := vd_lst (r1.up (kk k2))
  obtain ⟨t', rfl⟩ := vd_int r2
  have hn := line63
  have hz : its.size = ds.length := by
    have := hall.len
    rw [← this, Array.length_toList]
  obtain ⟨j, e1, e2, e3, e4, e5⟩ := atI_get ha
  obtain ⟨v, hv, rv⟩ := hall.get e2
  have hv' : its[j]? = some v := by rw [← Array.getElem?_toList]; exact hv
  have hx : items_at i its = some v := by
    unfold items_at
    by_cases h : 0 ≤ i
    · rw [if_pos h]
      have ej : j = i.toNat := by
        unfold seqIndex? at e1
        simp only [show ¬ i < 0 by omega, if_false] at e1
        split at e1 <;> simp_all
      rw [← ej]; exact hv'
    · rw [if_neg h]
      have ej : j = (i + ds.length).toNat := by
        unfold seqIndex? at e1
        simp only [show i < 0 by omega, if_true] at e1
        split at e1 <;> simp_all
      rw [hz, ← ej]; exact hv'
  unfold items_at at hx
  by_cases h : 0 ≤ i
  · rw [if_pos h] at hx
    exact subscriptTail_builtinR (x := v) ht.typeIs slot_list_getitem.lookup (wpAny_getItem_list (Q := fun r s' => r = v ∧ (Vd s'.heap r d ∧ Keeps z s')) ht h (by omega) hx ⟨rfl, rv, kt k1 k2⟩) (hs _ _)
  · rw [if_neg h] at hx
    exact subscriptTail_builtinR (x := v) ht.typeIs slot_list_getitem.lookup (wpAny_getItem_list_neg (Q := fun r s' => r = v ∧ (Vd s'.heap r d ∧ Keeps z s')) ht (by omega) (by rw [hz]; omega) (by omega) hx ⟨rfl, rv, kt k1 k2⟩) (hs _ _)
end
/-- a loop whose turn is told: for comprehensions of two fors -/
theorem walk_loop {J : It} {n : Nat} {G : Hp → Prop} {Y : Nat → Hp → V → Hp → Prop} (w : Walk J n G Y) {STEP : V → Hp → (Hp → Prop) → Prop} {Nx : Hp → Prop} {H0 : Hp} (Pv : Nat → Hp → Prop) (h0 : Pv 0 H0) (hG : ∀ i H, i ≤ n → Pv i H → G H)
    (hs : ∀ i x H H', i < n → Pv i H → Y i H x H' → STEP x H' (Pv (i + 1))) (hd : ∀ H, Pv n H → Nx H) :
    ∃ W : Nat → Nat → Hp → Prop, (∃ m, W 0 m H0) ∧ ∀ i m H, W i m H → (J.stop i H ∧ Nx H) ∨ (J.go i H ∧ ∃ Nx1 : Hp → Prop, (∀ H', Nx1 H' → ∃ m', m' < m ∧ W (i + 1) m' H') ∧ ∀ x H', J.yld i H x H' → STEP x H' Nx1) := by
  refine ⟨fun i m H => m = n - i ∧ i ≤ n ∧ Pv i H, ⟨n, by simp, Nat.zero_le _, h0⟩, ?_⟩
  rintro i m H ⟨rfl, hi, p⟩
  have q := hG i H hi p
  by_cases hlt : i < n
  · exact .inr ⟨w.goes i H hlt q, Pv (i + 1), fun H' p' => ⟨n - (i + 1), by omega, rfl, hlt, p'⟩, fun x H' y => hs i x H H' hlt p (w.yields i H x H' hlt q y)⟩
  · have e : i = n := by omega
    subst e
    exact .inl ⟨w.stops H q, hd H p⟩
end Gr
set_option Elab.async false
set_option maxRecDepth 100000
set_option maxHeartbeats 4000000
set_option linter.all false
/-! Ours: asks that keep apart. -/
namespace KP
open PySem PySem.Spec PyProof.Rows L2 Gr GxR
/-- the look at one pair: fewer asks than it counts, or the one so many back is far enough -/
def apartBL : List PyData → PyData × PyData → Bool
  | [.list as, .int t], (.int mo, .int wi) => apI (numsD as) t (mo, wi)
  | _, _ => false
def domAL (fd : List PyData) (q : PyData × PyData) : Prop := ∃ (ns : List Int) (t : Int) (p : Int × Int), fd = [.list (ns.map PyData.int), .int t] ∧ q = inD p ∧ 1 ≤ p.1 ∧ ns.length ≤ 1000
def spApartL (L : List Addr) : Sp := fun vs H Q _ => ∃ (lv av : V) (t : Int) (ps : List (Int × Int)) (ns : List Int), vs = [lv, av, .int t] ∧ Od H lv (.tuple ((ps.map inD).map tw)) ∧ (∀ p ∈ ps, 1 ≤ p.1) ∧ Od H av (.list (ns.map PyData.int)) ∧ ns.length ≤ 1000 ∧ Tb L H ∧ ∀ H', UpL L H H' → Q (.bl (ps.all (apI ns t))) H'
section
variable {P : Program} {w : World} {K : PySem.W.Frag} {mg : Str → Option Value} {base : Heap}
theorem sc_apartL : FnScope ["limits", "asks", "moment"] ["limits", "asks", "moment"] (defScope s_keeps_apart) := ⟨rfl, rfl, rfl, by decide +kernel, rfl, by decide +kernel, by decide +kernel⟩
theorem ok_apartL (T : D K mg) (TA : TabB base mg T.c_keeps_apart T.P_keeps_apart) {L : List Addr} (hL : T.P_keeps_apart ∈ L) : FnOk P w K mg base CX0 3 T.f_keeps_apart T.d_keeps_apart ["limits", "asks", "moment"] (spApartL L) := by
  refine T.V_keeps_apart.ok sc_apartL (fun vs H Q E h => ?_) (fun A outer s H vs Q E hr h => ?_)
  · obtain ⟨lv, av, t, ps, ns, rfl, _⟩ := h
    rfl
  · obtain ⟨lv, av, t, ps, ns, rfl, hl, h1, ha, hn, hT, k⟩ := h
    have mz : 5000 ≤ sizeLine := by decide
    refine ⟨_, pss_one (ps_ret (pe_allTF (xs := ["asks", "moment"]) (is := [1, 2]) (dom := domAL) (pb := apartBL) (k := 1) hr (by rfl) T.all TA rfl
      ⟨rfl, rfl, by decide +kernel, by rfl, by rfl, by rfl, by decide, ?_, .cons rfl (by rfl) (by decide +kernel) (.cons rfl (by rfl) (by decide +kernel) .nil)⟩ (pv 0)
      (fun en m h0 va vb q fd hsc C hma hmb ra rb hf hd => ?_) (fun _ => rfl))), ?_⟩
    · intro y hy e
      simp only [List.mem_cons, List.not_mem_nil, or_false] at hy
      rcases hy with rfl | rfl | rfl | rfl | rfl | rfl
      · cases e
      · cases e
      · cases e
      · exact ⟨_, rfl⟩
      · exact ⟨_, rfl⟩
      · cases e
    · obtain ⟨ns', t', p, rfl, rfl, hp, hn'⟩ := hd
      have z1 : (ns'.map PyData.int).length ≤ sizeLine := by rw [List.length_map]; omega
      cases hf with
      | cons c1 i1 r1 _ hf =>
        cases hf with
        | cons c2 i2 r2 z2 _ =>
          have e : apartBL [.list (ns'.map PyData.int), .int t'] (inD p) = (decide ((((ns'.map PyData.int).length : Nat) : Int) < p.1) || (match atI ns' (-p.1) with
              | some x => decide (p.2 ≤ t' - x)
              | none => false)) := by
            show apI (numsD (ns'.map PyData.int)) t' p = _
            rw [nums_ints, List.length_map]
            rfl
          rw [e]
          have nasks : ∀ {pos : Pos}, QE P w base h0 1 en m (.Name "asks" pos) (.list (ns'.map PyData.int)) := fun {pos} => qe_free C (by rw [hsc]; decide +kernel) c1 i1 r1
          have nmom : ∀ {pos : Pos}, QE P w base h0 1 en m (.Name "moment" pos) (.int t') := fun {pos} => qe_free C (by rw [hsc]; decide +kernel) c2 i2 r2
          have nmost : ∀ {pos : Pos}, QE P w base h0 1 en m (.Name "most" pos) (.int p.1) := fun {pos} => qe_name C (by rw [hsc]; decide +kernel) hma ra
          have nwide : ∀ {pos : Pos}, QE P w base h0 1 en m (.Name "wide" pos) (.int p.2) := fun {pos} => qe_name C (by rw [hsc]; decide +kernel) hmb rb
          refine qe_or (qe_lt (qe_lenL C nasks (by rw [hsc]; decide +kernel) T.len z1) nmost) (fun hf => qe_one ?_)
          have hnl := of_decide_eq_false hf
          rw [List.length_map] at hnl
          obtain ⟨x, hx⟩ := atI_some hp hnl
          rw [hx]
          exact qe_ge (qe_sub nmom (qe_ixAL nasks (qe_neg nmost) (atI_map hx) z1)) nwide
    · refine ⟨_, rfl, ps.map inD, [.list (ns.map PyData.int), .int t], hl.dq, .cons rfl ha.dq (.cons rfl (.int t) .nil), fun q hq => ?_, hT _ hL, fun H2 t2 => ?_⟩
      · obtain ⟨p, hp, rfl⟩ := List.mem_map.mp hq
        exact ⟨ns, t, p, rfl, rfl, h1 p hp, hn⟩
      · have q := k H2 (.tab hT t2 hL)
        have e : (ps.map inD).all (apartBL [.list (ns.map PyData.int), .int t]) = ps.all (apI ns t) := by
          rw [List.all_map]
          congr 1
          funext p
          show apI (numsD (ns.map PyData.int)) t p = apI ns t p
          rw [nums_ints]
        rw [e]
        exact q
end
end KP
set_option Elab.async false
set_option maxRecDepth 100000
set_option linter.all false
/-! Ours: how many asks are below an end: the mathematics. -/
namespace KP
open PySem PySem.Spec PyProof.Rows L2 Gr GxR
/-- of the next asks behind nothing, from st on, n are below e -/
def Mst (ps : List (Int × Int)) (hs : List Int) (st e : Int) (n : Nat) : Prop := ∃ ts, SRow ps hs [] st ts ∧ ts.length = n ∧ (∀ t ∈ ts, t < e) ∧ ∀ t, IsNxt ps hs ts st t → e ≤ t
theorem srow_prefix {ps : List (Int × Int)} {hs ts us : List Int} {st : Int} (a : SRow ps hs [] st ts) (b : SRow ps hs [] st us) (h : ts.length ≤ us.length) : us.take ts.length = ts := by
  have := SRow.one a b ts.length (Nat.le_refl _) h
  rw [List.take_of_length_le (Nat.le_refl _)] at this
  exact this.symm
theorem mst_le {ps : List (Int × Int)} {hs : List Int} {st e : Int} {n m : Nat} (a : Mst ps hs st e n) (b : Mst ps hs st e m) : m ≤ n := by
  obtain ⟨ts, h1, h2, h3, h4⟩ := a
  obtain ⟨us, k1, k2, k3, k4⟩ := b
  by_cases z : m ≤ n
  · exact z
  · have p := srow_prefix h1 k1 (by omega)
    have nx := k1 ts.length (by omega)
    rw [p] at nx
    have := h4 _ nx
    have := k3 _ (List.getElem_mem (l := us) (n := ts.length) (by omega))
    omega
theorem Mst.one {ps : List (Int × Int)} {hs : List Int} {st e : Int} {n m : Nat} (a : Mst ps hs st e n) (b : Mst ps hs st e m) : n = m := Nat.le_antisymm (mst_le b a) (mst_le a b)
theorem least_natR {P : Nat → Prop} : ∀ n, P n → ∃ m, P m ∧ ∀ k, k < m → ¬ P k := fun n h => by
  induction n using Nat.strongRecOn with
  | ind n ih =>
    by_cases z : ∃ k, k < n ∧ P k
    · obtain ⟨k, hk, pk⟩ := z
      exact ih k hk pk
    · exact ⟨n, h, fun k hk pk => z ⟨k, hk, pk⟩⟩
theorem nxt_some {ps : List (Int × Int)} {hs rs : List Int} {st : Int} (hp : ∀ p ∈ ps, 1 ≤ p.1) (ho : ∃ j : Nat, ∃ h : j < hs.length, hs[j] = 1) : ∃ t, IsNxt ps hs rs st t := by
  obtain ⟨j, hj, e⟩ := ho
  -- a moment behind all
  have big : ∃ M : Int, st ≤ M ∧ (∀ x ∈ rs, x ≤ M) := by
    refine ⟨rs.foldl max st, ?_, ?_⟩
    · clear hp e
      induction rs generalizing st with
      | nil => exact Int.le_refl _
      | cons a l ih => exact Int.le_trans (Int.le_max_left st a) (ih (st := max st a))
    · clear hp e
      intro x hx
      have h1 : ∀ (l : List Int) (s : Int), s ≤ l.foldl max s := fun l => by
        induction l with
        | nil => exact fun s => Int.le_refl _
        | cons a l ih => exact fun s => Int.le_trans (Int.le_max_left s a) (ih (max s a))
      induction rs generalizing st with
      | nil => cases hx
      | cons a l ih =>
        rcases List.mem_cons.mp hx with e | e
        · rw [e]
          exact Int.le_trans (Int.le_max_right st a) (h1 l (max st a))
        · exact ih (st := max st a) e
  obtain ⟨M, hM1, hM2⟩ := big
  have bigw : ∃ W : Int, 0 ≤ W ∧ ∀ p ∈ ps, p.2 ≤ W := by
    clear hp e
    induction ps with
    | nil => exact ⟨0, Int.le_refl _, fun _ h => nomatch h⟩
    | cons a l ih =>
      obtain ⟨W, h0, hW⟩ := ih
      refine ⟨max W a.2, Int.le_trans h0 (Int.le_max_left _ _), fun p h => ?_⟩
      rcases List.mem_cons.mp h with e | e
      · rw [e]; exact Int.le_max_right _ _
      · exact Int.le_trans (hW p e) (Int.le_max_left _ _)
  obtain ⟨W, hW0, hW⟩ := bigw
  obtain ⟨s, hs1, hs2⟩ := open_soon hj e (M + W)
  let P : Nat → Prop := fun k => Past rs st (st + (k : Int)) ∧ openI hs (st + (k : Int)) = true ∧ ps.all (apI rs (st + (k : Int))) = true
  have h1 : P (M + W + (s : Int) - st).toNat := by
    have e2 : st + (((M + W + (s : Int) - st).toNat : Nat) : Int) = M + W + (s : Int) := by omega
    show Past rs st (st + (((M + W + (s : Int) - st).toNat : Nat) : Int)) ∧ _ ∧ _
    rw [e2]
    refine ⟨⟨by omega, fun x hx => ?_⟩, hs2, List.all_eq_true.mpr fun q hq => ?_⟩
    · obtain ⟨h0, rfl⟩ := last_some hx
      have := hM2 _ (List.getElem_mem (l := rs) (n := rs.length - 1) (by omega))
      omega
    · have hq1 := hp q hq
      have hq2 := hW q hq
      unfold apI
      by_cases z : ((rs.length : Nat) : Int) < q.1
      · rw [decide_eq_true z, Bool.true_or]
      · rw [back_at hq1 (by omega)]
        have := hM2 _ (List.getElem_mem (l := rs) (n := rs.length - q.1.toNat) (by omega))
        rw [Bool.or_eq_true]
        exact .inr (decide_eq_true (by omega))
  obtain ⟨m, ⟨a, b, c⟩, hm⟩ := least_natR _ h1
  refine ⟨_, a, b, c, fun u pu ou au => ?_⟩
  by_cases z : st + (m : Int) ≤ u
  · exact z
  · have := pu.1
    have e2 : st + (((u - st).toNat : Nat) : Int) = u := by omega
    exact absurd (show P (u - st).toNat from by
      show Past rs st (st + (((u - st).toNat : Nat) : Int)) ∧ _ ∧ _
      rw [e2]
      exact ⟨pu, ou, au⟩) (hm _ (by omega))
theorem srt_nil : Srt [] := fun i _ h => absurd h (Nat.not_lt_zero i)
theorem row_srt0 {ps : List (Int × Int)} {hs ts : List Int} {st : Int} (sr : SRow ps hs [] st ts) : Srt ts := by
  have := row_srt srt_nil sr ts.length (Nat.le_refl _)
  rw [List.nil_append, List.take_of_length_le (Nat.le_refl _)] at this
  exact this
theorem row_from {ps : List (Int × Int)} {hs ts : List Int} {st : Int} (sr : SRow ps hs [] st ts) : ∀ x ∈ ts, st ≤ x := fun x hx => by
  obtain ⟨i, hi, rfl⟩ := List.getElem_of_mem hx
  exact (sr i hi).past.1
/-- such a row's asks below e are its first ones -/
theorem below_count {ps : List (Int × Int)} {hs ts : List Int} {st e : Int} {n : Nat} (sr : SRow ps hs [] st ts) (m : Mst ps hs st e n) (h : n ≤ ts.length) : (ts.filter fun t => decide (t < e)).length = n := by
  obtain ⟨us, k1, k2, k3, k4⟩ := m
  have p := srow_prefix k1 sr (by omega)
  rw [k2] at p
  have sp := row_srt0 sr
  have e1 : ts = ts.take n ++ ts.drop n := (List.take_append_drop n ts).symm
  rw [e1, List.filter_append, p]
  rw [List.filter_eq_self.mpr (fun t ht => decide_eq_true (k3 t ht))]
  have e2 : (ts.drop n).filter (fun t => decide (t < e)) = [] := by
    refine List.filter_eq_nil_iff.mpr fun t ht => ?_
    obtain ⟨i, hi, rfl⟩ := List.getElem_of_mem ht
    rw [List.length_drop] at hi
    rw [List.getElem_drop]
    have nx := sr n (by omega)
    rw [List.nil_append, p] at nx
    have := k4 _ nx
    have := sp n (n + i) (by omega) (by omega) (by omega)
    simp only [decide_eq_true_eq]
    omega
  rw [e2, List.append_nil, k2]
/-- a row grows by each pair's W with each K of them -/
theorem row_grow {ps : List (Int × Int)} {hs ts : List Int} {st : Int} {p : Int × Int} (hp : p ∈ ps) {K : Nat} (hK : 1 ≤ p.1 ∧ p.1 ≤ (K : Int)) {W : Int} (hW : W ≤ p.2) (hW0 : 0 ≤ W) (sr : SRow ps hs [] st ts) : ∀ (q i : Nat) (hi : i < ts.length), K * q ≤ i → st + W * (q : Int) ≤ ts[i]
  | 0, i, hi, _ => by
    have := (sr i hi).past.1
    simpa using this
  | q + 1, i, hi, h => by
    have sp := row_srt0 sr
    have e0 : K * (q + 1) = K * q + K := Nat.mul_succ K q
    have ih := row_grow hp hK hW hW0 sr q (i - K) (by omega) (by omega)
    have a := List.all_eq_true.mp (sr i hi).all p hp
    rw [List.nil_append] at a
    unfold apI at a
    have hl : (ts.take i).length = i := by rw [List.length_take]; omega
    rw [hl, decide_eq_false (by omega), Bool.false_or, back_at hK.1 (by rw [hl]; omega)] at a
    have a := of_decide_eq_true a
    rw [List.getElem_take] at a
    have b := sp (i - K) ((ts.take i).length - p.1.toNat) (by omega) (by rw [hl]; omega) (by rw [hl]; omega)
    have e1 : W * ((q + 1 : Nat) : Int) = W * (q : Int) + W := by
      rw [Int.natCast_add, Int.mul_add]
      simp
    omega
/-- what lets one more ask behind later ones lets it behind sooner ones -/
theorem lead_nxt {ps : List (Int × Int)} {hs us rs : List Int} {st t u : Int} (hp : ∀ p ∈ ps, 1 ≤ p.1) (n : IsNxt ps hs us st t) (hl : us.length = rs.length) (hle : ∀ (i : Nat) (h : i < us.length), us[i] ≤ rs[i]'(hl ▸ h)) (h1 : st ≤ u) (h2 : ∀ x ∈ rs, x ≤ u) (ho : openI hs u = true) (ha : ps.all (apI rs u) = true) : t ≤ u := by
  refine n.least u ⟨h1, fun x hx => ?_⟩ ho (List.all_eq_true.mpr fun q hq => ap_sooner (hp q hq) hl hle (List.all_eq_true.mp ha q hq))
  obtain ⟨h0, rfl⟩ := last_some hx
  have a := hle (us.length - 1) (by omega)
  have b := h2 _ (List.getElem_mem (l := rs) (n := us.length - 1) (by omega))
  omega
end KP
set_option Elab.async false
set_option maxRecDepth 100000
set_option maxHeartbeats 4000000
set_option linter.all false
/-! Ours: hours that may stand in the written part; how many asks there are at most. -/
namespace KP
open PySem PySem.Spec PyProof.Rows L2 Gr GxR
/-- hours, laid or written -/
def HrsV (K : PySem.W.Frag) (H : Hp) (v : V) (hs : List Int) : Prop := ∃ a, v = .ref a ∧ SqT K H a (hs.map V.int)
theorem hrsV_same {K : PySem.W.Frag} {H H' : Hp} {v : V} {hs : List Int} (s : Same H H') (h : HrsV K H v hs) : HrsV K H' v hs := let ⟨a, e, q⟩ := h; ⟨a, e, sqt_same s q⟩
/-- rules: a pair of limits and hours -/
def RulV (K : PySem.W.Frag) (H : Hp) (v : V) (ps : List (Int × Int)) (hs : List Int) : Prop := ∃ a lv hv, v = .ref a ∧ H a = some (.tup [lv, hv]) ∧ Od H lv (.tuple ((ps.map inD).map tw)) ∧ HrsV K H hv hs
theorem rulV_same {K : PySem.W.Frag} {H H' : Hp} {v : V} {ps : List (Int × Int)} {hs : List Int} (s : Same H H') (h : RulV K H v ps hs) : RulV K H' v ps hs := let ⟨a, lv, hv, e, q, x, y⟩ := h; ⟨a, lv, hv, e, s _ _ q, x.same s, hrsV_same s y⟩
def spOpensK (K : PySem.W.Frag) : Sp := fun vs H Q _ => ∃ (hv : V) (hs : List Int) (t : Int), vs = [hv, .int t] ∧ HrsV K H hv hs ∧ 0 < hs.length ∧ Q (.bl (openI hs t)) H
def spNOpenK (K : PySem.W.Frag) : Sp := fun vs H Q _ => ∃ (hv : V) (hs : List Int) (t : Int), vs = [hv, .int t] ∧ HrsV K H hv hs ∧ (∃ j : Nat, ∃ h : j < hs.length, hs[j] = 1) ∧ ∀ u, openI hs u = true → t ≤ u → (∀ v, t ≤ v → openI hs v = true → u ≤ v) → Q (.int u) H
def spNextK (K : PySem.W.Frag) : Sp := fun vs H Q _ => ∃ (rv : V) (r : Addr) (st : Int) (ps : List (Int × Int)) (hs rs : List Int), vs = [rv, .ref r, .int st] ∧ RulV K H rv ps hs ∧ ps.length ≤ 4 ∧ (∀ p ∈ ps, 1 ≤ p.1) ∧ (∃ j : Nat, ∃ h : j < hs.length, hs[j] = 1) ∧ H r = some (.lst (rs.map V.int)) ∧ rs.length ≤ 4000 ∧ ∀ t H', IsNxt ps hs rs st t → Same H H' → Q (.int t) H'
section
variable {P : Program} {w : World} {K : PySem.W.Frag} {mg : Str → Option Value} {base : Heap}
theorem sc_opensK : FnScope ["hours", "moment"] ["hours", "moment"] (defScope s_opens) := ⟨rfl, rfl, rfl, by decide +kernel, rfl, by decide +kernel, by decide +kernel⟩
theorem ok_opensK (T : D K mg) : FnOk P w K mg base CX0 1 T.f_opens T.d_opens ["hours", "moment"] (spOpensK K) := by
  refine T.U_opens.ok sc_opensK (fun vs H Q E h => ?_) (fun cdv A outer s H vs Q E hr h => ?_)
  · obtain ⟨hv, hs, t, rfl, _⟩ := h
    rfl
  · obtain ⟨hv, hs, t, rfl, ho, h0, k⟩ := h
    have nd := sc_opensK.nd
    obtain ⟨a, rfl, ea⟩ := ho
    refine ⟨_, pss_one (ps_ret (pe_cmpR op_eq (pe_ix ix_tup (pv 0) (pe_op op_mod (pv 1) (pe_callB call_len_seq (by rfl) T.len PySem.boot_len (pa_cons (pv 0) pa_nil))) (fun _ _ => rfl)) pe_int (nomark _))), ?_⟩
    have hb := Int.emod_nonneg t (b := ((hs.length : Nat) : Int)) (by omega)
    have hc := Int.emod_lt_of_pos t (b := ((hs.length : Nat) : Int)) (by omega)
    have hj : (t % ((hs.length : Nat) : Int)).toNat < hs.length := by omega
    refine ⟨_, rfl, _, rfl, _, rfl, a, _, rfl, .inr ea, ?_⟩
    have ex : atI (hs.map V.int) (t % (((hs.map V.int).length : Nat) : Int)) = some (V.int hs[(t % ((hs.length : Nat) : Int)).toNat]) := by
      rw [List.length_map]
      obtain ⟨j, ej⟩ : ∃ j : Nat, t % ((hs.length : Nat) : Int) = (j : Int) := ⟨(t % ((hs.length : Nat) : Int)).toNat, by omega⟩
      have hj2 : j < hs.length := by omega
      refine (congrArg (atI (hs.map V.int)) ej).trans ((atI_nat (v := V.int hs[j]) ?_).trans ?_)
      · rw [List.getElem?_map, List.getElem?_eq_getElem hj2]
        rfl
      · congr 2
        congr 1
        omega
    refine ⟨_, _, rfl, rfl, by rw [List.length_map]; omega, a, _, _, _, rfl, rfl, ea, ex, rfl, ?_⟩
    have e : decide (V.int hs[(t % ((hs.length : Nat) : Int)).toNat] = V.int 1) = openI hs t := by
      unfold openI
      rw [List.getElem?_eq_getElem hj, Bool.eq_iff_iff]
      simp
    rw [e]
    exact k
theorem sc_nopenK : FnScope ["hours", "moment"] ["hours", "moment"] (defScope s_next_open) := ⟨rfl, rfl, rfl, by decide +kernel, rfl, by decide +kernel, by decide +kernel⟩
theorem ok_nopenK (T : D K mg) : FnOk P w K mg base CX0 2 T.f_next_open T.d_next_open ["hours", "moment"] (spNOpenK K) := by
  refine T.U_next_open.ok sc_nopenK (fun vs H Q E h => ?_) (fun cdv A outer s H vs Q E hr h => ?_)
  · obtain ⟨hv, hs, t, rfl, _⟩ := h
    rfl
  · obtain ⟨hv, hs, t, rfl, hH, ⟨j, hj, e1⟩, k⟩ := h
    have nd := sc_nopenK.nd
    refine ⟨_, pss_cons (ps_while PassesOwn.never (pt_not (pt_val (pe_call (ok_opensK T) hr rfl T.g_opens T.U_opens.kp T.b_opens .nil pass0 (pa_cons (pv 0) (pa_cons (pv 1) pa_nil)))))
        (pss_one (ps_aug (i := 1) nd rfl (.inl rfl) pe_int ip_add)))
      (pss_one (ps_ret (pv 1))), ?_⟩
    obtain ⟨s0, h1, h2⟩ := open_soon hj e1 t
    refine ⟨fun m σ H' => H' = H ∧ ∃ u : Int, σ = [some hv, some (.int u)] ∧ t ≤ u ∧ (∀ v, t ≤ v → openI hs v = true → u ≤ v) ∧ m = (t + (s0 : Int) - u).toNat, ⟨_, rfl, t, rfl, Int.le_refl _, fun v hv _ => hv, rfl⟩, ?_⟩
    rintro m σ H' ⟨rfl, u, rfl, tu, lu, rfl⟩
    refine ⟨_, rfl, _, rfl, hv, hs, u, rfl, hH, by omega, _, rfl, ?_⟩
    cases ho : openI hs u with
    | true => exact ⟨_, rfl, k u ho tu lu⟩
    | false =>
      have hlt : u < t + (s0 : Int) := by
        have := lu _ (by omega) h2
        by_cases z : u = t + (s0 : Int)
        · rw [z, h2] at ho; cases ho
        · omega
      refine ⟨fun σ' H2 => H2 = H' ∧ ∃ v : Int, σ' = [some hv, some (.int v)] ∧ t ≤ v ∧ (∀ x, t ≤ x → openI hs x = true → v ≤ x) ∧ v = u + 1, ?_, ?_⟩
      · rintro σ' H2 ⟨rfl, v, rfl, tv, lv, rfl⟩
        exact ⟨_, by omega, rfl, u + 1, rfl, tv, lv, rfl⟩
      · refine ⟨_, rfl, _, _, rfl, rfl, rfl, u + 1, rfl, by omega, fun x hx hox => ?_, rfl⟩
        have := lu x hx hox
        by_cases z : x = u
        · rw [z, ho] at hox; cases hox
        · omega
theorem sc_nextK : FnScope ["rules", "asks", "since", "limits", "hours", "bounds", "most", "wide"] ["rules", "asks", "since"] (defScope s_next_ask) := ⟨rfl, rfl, rfl, by decide +kernel, rfl, by decide +kernel, by decide +kernel⟩
theorem ok_nextK (T : D K mg) : FnOk P w K mg base CX0 3 T.f_next_ask T.d_next_ask ["rules", "asks", "since"] (spNextK K) := by
  refine T.U_next_ask.ok sc_nextK (fun vs H Q E h => ?_) (fun cdv A outer s H vs Q E hr h => ?_)
  · obtain ⟨rv, r, st, ps, hs, rs, rfl, _⟩ := h
    rfl
  · obtain ⟨rv, r, st, ps, hs, rs, rfl, hR, hl4, hp, ho, er, hrl, k⟩ := h
    have nd := sc_nextK.nd
    have mz : 5000 ≤ sizeLine := by decide
    refine ⟨_, pss_cons (ps_asg (pv 0) (pg_tup rfl (pgs_cons (pg_name (i := 3) nd rfl (.inl rfl)) (pgs_cons (pg_name (i := 4) nd rfl (.inl rfl)) pgs_nil))))
      (pss_cons (ps_setLc (i := 5) (own := [("most", 6), ("wide", 7)]) (g := gTup _ 2 (gCons (gName 6) (gCons (gName 7) gNil))) rfl nd rfl rfl (sw_true rfl rfl rfl (by decide +kernel)) (pi_tup (pv 3)) (blkOk_by (N := ["rules", "asks", "since", "limits", "hours", "bounds", "most", "wide"]) (sc := defScope s_next_ask) (by decide +kernel)) (fun _ _ _ _ _ => pg_tup rfl (pgs_cons (pg_name (i := 6) nd rfl (.inl rfl)) (pgs_cons (pg_name (i := 7) nd rfl (.inl rfl)) pgs_nil))) (fun _ _ _ _ _ => (pts_one (pt_cmpR op_ge (pe_callB call_len_seqB (by rfl) T.len PySem.boot_len (pa_cons (pv 1) pa_nil)) (pv 6) (nomark _)))) (fun _ _ _ _ _ => pe_op op_add (pe_ix ix_listB (pv 1) (pe_un un_neg (pv 6)) (fun _ _ => rfl)) (pv 7)))
      (pss_one (ps_ret (pe_call (ok_nopenK T) hr rfl T.g_next_open T.U_next_open.kp T.b_next_open .nil pass0 (pa_cons (pv 4) (pa_cons (pe_callB (cr_max rfl) (by rfl) T.max (by decide +kernel) (pa_cons (pe_op op_cat (pe_op op_cat (pv 5) (pe_callTy call_list_of (by rfl) T.list (by decide +kernel) (pa_cons (pe_slice sl_list (pv 1) (po_some (pe_un un_neg pe_int)) po_none) pa_nil))) (pe_lst (pa_cons (pv 2) pa_nil))) pa_nil)) pa_nil)))))), ?_⟩
    obtain ⟨ra, lv, hv, rfl, era, oL, oH⟩ := hR
    refine ⟨_, rfl, ra, _, rfl, SqT.of era, rfl, _, _, rfl, _, _, rfl, rfl, ?_⟩
    obtain ⟨la, ls, rfl, el, ol⟩ := od_tup oL
    have lls : ls.length = ps.length := by rw [ol.len, List.length_map, List.length_map]
    refine ⟨_, rfl, la, rfl, ⟨_, SqT.of el⟩, fun D hD => lc_tup (K := K) (a := la) (xs := ls) (fun i Hx => Same H Hx ∧ ∃ bs : List Int, Hx D = some (.lst (bs.map V.int)) ∧ bs.length ≤ i ∧ (∀ b ∈ bs, ∀ u, ps.all (apI rs u) = true → b ≤ u) ∧ (∀ j (hj : j < ps.length), j < i → ∀ u, (∀ b ∈ bs, b ≤ u) → apI rs u ps[j] = true)) ⟨same_upd hD, [], upd_same, Nat.le_refl _, (fun _ h => nomatch h), fun _ _ h => absurd h (Nat.not_lt_zero _)⟩ (fun i Hx _ q => SqT.of (q.1 _ _ el)) ?_ ?_⟩
    · rintro i x Hx hx ⟨sx, bs, eb, lb, b1, b2⟩
      obtain ⟨q, b, hpm, rfl, eb'⟩ := pair_at ol hx
      obtain ⟨hmp, hpe⟩ := List.getElem?_eq_some_iff.mp hpm
      have hpp := hp q (List.mem_of_getElem? hpm)
      have nDr := ne_of_none er hD
      refine ⟨b, _, rfl, SqT.of (sx _ _ eb'), rfl, _, _, rfl, _, _, rfl, rfl, rfl, ?_⟩
      refine ⟨_, rfl, r, _, rfl, .inl (SqL.of (sx _ _ er)), _, rfl, _, _, rfl, rfl, _, rfl, ?_⟩
      rw [List.length_map]
      refine ite2 (fun h => ?_) (fun h => ?_)
      · have h := of_decide_eq_true h
        obtain ⟨x, hxx⟩ := atI_some (ns := rs) hpp (by omega)
        refine ⟨_, rfl, _, rfl, _, rfl, r, _, _, V.int x, rfl, rfl, SqL.of (sx _ _ er), atI_mapV hxx, _, rfl, _, _, rfl, rfl, _, eb, by rw [List.length_map]; omega, same_into hD sx, bs ++ [x + q.2], by rw [upd_same, List.map_append]; rfl, by rw [List.length_append]; show _ + 1 ≤ _; omega, fun c hc u hu => ?_, fun j hj hji u hu => ?_⟩
        · rcases List.mem_append.mp hc with h1 | h1
          · exact b1 c h1 u hu
          · rw [List.mem_singleton.mp h1]
            have h2 := List.all_eq_true.mp hu q (List.mem_of_getElem? hpm)
            unfold apI at h2
            rw [hxx, decide_eq_false (by omega), Bool.false_or] at h2
            have h2 := of_decide_eq_true h2
            omega
        · by_cases z : j = i
          · subst z
            rw [hpe]
            have := hu (x + q.2) (List.mem_append_right _ (List.mem_singleton.mpr rfl))
            unfold apI
            rw [hxx, Bool.or_eq_true]
            exact .inr (decide_eq_true (by omega))
          · exact b2 j hj (by omega) u fun c hc => hu c (List.mem_append_left _ hc)
      · have h : ¬ q.1 ≤ ((rs.length : Nat) : Int) := fun z => h (decide_eq_true z)
        refine ⟨sx, bs, eb, by omega, b1, fun j hj hji u hu => ?_⟩
        by_cases z : j = i
        · subst z
          rw [hpe]
          unfold apI
          rw [decide_eq_true (show ((rs.length : Nat) : Int) < q.1 by omega), Bool.true_or]
        · exact b2 j hj (by omega) u hu
    · rintro Hx ⟨sx, bs, eb, lb, b1, b2⟩
      rw [lls] at lb b2
      refine gn ?_
      have erx := sx _ _ er
      refine ⟨_, rfl, _, rfl, _, rfl, 1, rfl, _, rfl, ?_⟩
      dsimp only [tNoPart]
      refine ⟨r, _, rfl, SqL.of erx, fun c1 hc1 => ?_⟩
      rw [cut_I]
      have lc : (cutI rs (some (-1)) none).length ≤ 4000 := by
        unfold cutI
        rw [List.length_take, List.length_drop]
        omega
      have sa := same_upd (o := HO.lst ((cutI rs (some (-1)) none).map V.int)) hc1
      refine ⟨c1, _, rfl, .inl (SqL.of upd_same), fun c2 hc2 => ?_⟩
      have sb := same_upd (o := HO.lst ((cutI rs (some (-1)) none).map V.int)) hc2
      refine ⟨D, c2, _, _, rfl, rfl, sb _ _ (sa _ _ eb), upd_same, by rw [List.length_map, List.length_map]; omega, fun c3 hc3 => ?_⟩
      have sc := same_upd (o := HO.lst (bs.map V.int ++ (cutI rs (some (-1)) none).map V.int)) hc3
      refine ⟨_, rfl, by show 1 ≤ sizeLine; omega, fun c4 hc4 => ?_⟩
      have sd := same_upd (o := HO.lst [V.int st]) hc4
      refine ⟨c3, c4, _, _, rfl, rfl, sd _ _ upd_same, upd_same, by rw [List.length_append, List.length_map, List.length_map]; show _ + 1 ≤ sizeLine; omega, fun c5 hc5 => ?_⟩
      have se := same_upd (o := HO.lst (bs.map V.int ++ (cutI rs (some (-1)) none).map V.int ++ [V.int st])) hc5
      refine ⟨c5, bs ++ cutI rs (some (-1)) none ++ [st], rfl, SqL.of (by rw [upd_same, List.map_append, List.map_append]; rfl), by rw [List.length_append]; exact Nat.succ_pos _, fun m hm hle => ?_⟩
      have s5 := sx.trans (sa.trans (sb.trans (sc.trans (sd.trans se))))
      refine ⟨hv, hs, m, rfl, hrsV_same s5 oH, ho, fun u hu mu lu => k u _ ⟨⟨?_, fun x hx => ?_⟩, hu, ?_, fun v pv ov av => lu v ?_ ov⟩ s5⟩
      · have := hle st (List.mem_append_right _ (List.mem_singleton.mpr rfl))
        omega
      · have := hle x (List.mem_append_left _ (List.mem_append_right _ (last_in hx)))
        omega
      · refine List.all_eq_true.mpr fun q hq => ?_
        obtain ⟨j, hj, rfl⟩ := List.getElem_of_mem hq
        exact b2 j hj hj u fun c hc => by
          have := hle c (List.mem_append_left _ (List.mem_append_left _ hc))
          omega
      · rcases List.mem_append.mp hm with h | h
        · rcases List.mem_append.mp h with h | h
          · exact b1 m h v av
          · have h0 : 0 < rs.length := by
              cases hz : rs with
              | nil => rw [hz] at h; cases h
              | cons a l => exact Nat.succ_pos _
            rw [cut_last h0] at h
            rw [List.mem_singleton.mp h]
            exact pv.2 _ (last_at h0)
        · rw [List.mem_singleton.mp h]
          exact pv.1
end
end KP
set_option Elab.async false
set_option maxRecDepth 100000
set_option maxHeartbeats 4000000
set_option linter.all false
/-! Ours: most_between, most_within. -/
namespace KP
open PySem PySem.Spec PyProof.Rows L2 Gr GxR
/-- what most_between answers -/
def MostV (ps : List (Int × Int)) (hs : List Int) (st e : Int) (v : V) : Prop :=
  (ps = [] ∧ ((v = .non ∧ ∃ u, st ≤ u ∧ u < e ∧ openI hs u = true) ∨ (v = .int 0 ∧ ∀ u, st ≤ u → u < e → openI hs u = false))) ∨ (ps ≠ [] ∧ ∃ n : Nat, v = .int n ∧ Mst ps hs st e n)
def spMostB (K : PySem.W.Frag) : Sp := fun vs H Q _ => ∃ (rv : V) (st e : Int) (ps : List (Int × Int)) (hs : List Int), vs = [rv, .int st, .int e] ∧ RulV K H rv ps hs ∧ ps.length ≤ 4 ∧ (∀ p ∈ ps, 1 ≤ p.1 ∧ p.1 ≤ 6 ∧ 1 ≤ p.2) ∧ (∃ j : Nat, ∃ h : j < hs.length, hs[j] = 1) ∧ e ≤ st + 100 ∧ ∀ v H', MostV ps hs st e v → Same H H' → Q v H'
theorem row_short {ps : List (Int × Int)} {hs ts : List Int} {st e : Int} (h0 : ps ≠ []) (hp : ∀ p ∈ ps, 1 ≤ p.1 ∧ p.1 ≤ 6 ∧ 1 ≤ p.2) (sr : SRow ps hs [] st ts) (hlt : ∀ x ∈ ts, x < e) (he : e ≤ st + 100) : ts.length ≤ 606 := by
  obtain ⟨p, l, rfl⟩ := List.exists_cons_of_ne_nil h0
  have hq := hp p (List.mem_cons_self)
  by_cases z : ts.length ≤ 606
  · exact z
  · have g := row_grow (List.mem_cons_self) (K := 6) ⟨hq.1, hq.2.1⟩ (W := 1) hq.2.2 (by decide) sr 100 600 (by omega) (by omega)
    have := hlt _ (List.getElem_mem (l := ts) (n := 600) (by omega))
    have g : st + 1 * (100 : Int) ≤ ts[600] := g
    omega
section
variable {P : Program} {w : World} {K : PySem.W.Frag} {mg : Str → Option Value} {base : Heap}
theorem sc_mostb : FnScope ["rules", "start", "end", "limits", "hours", "asks", "moment"] ["rules", "start", "end"] (defScope s_most_between) := ⟨rfl, rfl, rfl, by decide +kernel, rfl, by decide +kernel, by decide +kernel⟩
theorem ok_mostb (T : D K mg) : FnOk P w K mg base CX0 4 T.f_most_between T.d_most_between ["rules", "start", "end"] (spMostB K) := by
  refine T.U_most_between.ok sc_mostb (fun vs H Q E h => ?_) (fun cdv A outer s H vs Q E hr h => ?_)
  · obtain ⟨rv, st, e, ps, hs, rfl, _⟩ := h
    rfl
  · obtain ⟨rv, st, e, ps, hs, rfl, hR, hl4, hp, ho, he, k⟩ := h
    have nd := sc_mostb.nd
    have mz : 5000 ≤ sizeLine := by decide
    refine ⟨_, pss_cons (ps_asg (pv 0) (pg_tup rfl (pgs_cons (pg_name (i := 3) nd rfl (.inl rfl)) (pgs_cons (pg_name (i := 4) nd rfl (.inl rfl)) pgs_nil))))
      (pss_cons (ps_if (pt_not (pt_truth (pv 3) (fun _ => rfl)))
        (pss_one (ps_ret (pe_ifExp (pt_cmpR op_lt (pe_call (ok_nopenK T) (hr.mono (by decide)) rfl T.g_next_open T.U_next_open.kp T.b_next_open .nil pass0 (pa_cons (pv 4) (pa_cons (pv 1) pa_nil))) (pv 2) (nomark _)) pe_non pe_int)))
        (pss_nil))
      (pss_cons (ps_set (i := 5) nd rfl (.inl rfl) (pe_lst pa_nil))
      (pss_cons (ps_set (i := 6) nd rfl (.inl rfl) (pe_call (ok_nextK T) hr rfl T.g_next_ask T.U_next_ask.kp T.b_next_ask .nil pass0 (pa_cons (pv 0) (pa_cons (pv 5) (pa_cons (pv 1) pa_nil)))))
      (pss_cons (ps_while PassesOwn.never (pt_cmpR op_lt (pv 6) (pv 2) (nomark _))
        (pss_cons (ps_expr (pe_bm PySem.F.plainAttrs_list PySem.F.slot_list_append PySem.F.type_list_append mt_append (pv 5) (pa_cons (pv 6) pa_nil)))
        (pss_one (ps_set (i := 6) nd rfl (.inl rfl) (pe_call (ok_nextK T) hr rfl T.g_next_ask T.U_next_ask.kp T.b_next_ask .nil pass0 (pa_cons (pv 0) (pa_cons (pv 5) (pa_cons (pv 1) pa_nil))))))))
      (pss_one (ps_ret (pe_callB call_len_seq (by rfl) T.len PySem.boot_len (pa_cons (pv 5) pa_nil)))))))), ?_⟩
    have hR0 := hR
    obtain ⟨ra, lv, hv, rfl, era, oL, oH⟩ := hR
    obtain ⟨la, ls, rfl, el, ol⟩ := od_tup oL
    have lls : ls.length = ps.length := by rw [ol.len, List.length_map, List.length_map]
    have hp1 : ∀ p ∈ ps, 1 ≤ p.1 := fun p h => (hp p h).1
    refine ⟨_, rfl, ra, _, rfl, SqT.of era, rfl, _, _, rfl, _, _, rfl, rfl, ?_⟩
    refine ⟨_, rfl, !ls.isEmpty, .inr (.inl ⟨ls, SqT.of el, rfl⟩), ?_⟩
    cases hps : ps with
    | nil =>
      have e0 : ls = [] := List.eq_nil_of_length_eq_zero (by rw [lls, hps]; rfl)
      rw [e0, if_pos (show (!!([] : List V).isEmpty) = true from rfl)]
      refine ⟨_, rfl, _, rfl, hv, hs, st, rfl, oH, ho, fun u hu su lu => ⟨_, rfl, _, _, rfl, rfl, _, rfl, ite2 (fun z => ?_) (fun z => ?_)⟩⟩
      · have z := of_decide_eq_true z
        exact k _ _ (.inl ⟨hps, .inl ⟨rfl, u, su, z, hu⟩⟩) (.refl H)
      · refine k _ _ (.inl ⟨hps, .inr ⟨rfl, fun v v1 v2 => ?_⟩⟩) (.refl H)
        cases hv' : openI hs v with
        | false => rfl
        | true =>
          have := lu v v1 hv'
          exact absurd (decide_eq_true (by omega)) z
    | cons p0 ps0 =>
      have hne : ps ≠ [] := fun h => by rw [hps] at h; cases h
      have e0 : ls.isEmpty = false := by
        cases hl : ls with
        | nil => rw [hl, hps] at lls; cases lls
        | cons a l => rfl
      rw [e0, if_neg (show ¬ (!!false) = true from (by decide))]
      refine next_of ?_
      dsimp only
      refine ⟨by show 0 ≤ sizeLine; omega, fun r hr0 => gn ?_⟩
      have s1 := same_upd (o := HO.lst []) hr0
      have e1 : upd H r (.lst []) r = some (.lst (([] : List Int).map V.int)) := upd_same
      generalize upd H r (.lst []) = H1 at *
      refine ⟨_, rfl, _, rfl, _, rfl, _, r, st, ps, hs, [], rfl, rulV_same s1 hR0, hl4, hp1, ho, e1, Nat.zero_le _, fun t H2 nx s2 => gn ?_⟩
      refine ⟨fun m σ Hx => Same H Hx ∧ ∃ (ts : List Int) (u : Int), σ = [some (.ref ra), some (.int st), some (.int e), some (.ref la), some hv, some (.ref r), some (.int u)] ∧ Hx r = some (.lst (ts.map V.int)) ∧ SRow ps hs [] st ts ∧ (∀ x ∈ ts, x < e) ∧ IsNxt ps hs ts st u ∧ m = 700 - ts.length, ⟨_, s1.trans s2, [], t, rfl, s2 _ _ e1, SRow.nil, (fun _ h => nomatch h), nx, rfl⟩, ?_⟩
      rintro m σ Hx ⟨sx, ts, u, rfl, ex, srow, hlt, hn, rfl⟩
      refine ⟨_, rfl, _, rfl, _, _, rfl, rfl, _, rfl, ite2 (fun z => ?_) (fun z => ?_)⟩
      · have z := of_decide_eq_true z
        have srow' : SRow ps hs [] st (ts ++ [u]) := SRow.snoc srow hn
        have hlt' : ∀ x ∈ ts ++ [u], x < e := fun x hx => by
          rcases List.mem_append.mp hx with h | h
          · exact hlt x h
          · rw [List.mem_singleton.mp h]; exact z
        have hl := row_short hne hp srow' hlt' he
        rw [List.length_append] at hl
        have hl : ts.length + 1 ≤ 606 := hl
        refine ⟨fun σ' H3 => Same H H3 ∧ ∃ (us : List Int) (u' : Int), σ' = [some (.ref ra), some (.int st), some (.int e), some (.ref la), some hv, some (.ref r), some (.int u')] ∧ H3 r = some (.lst (us.map V.int)) ∧ SRow ps hs [] st us ∧ (∀ x ∈ us, x < e) ∧ IsNxt ps hs us st u' ∧ us.length = ts.length + 1, ?_, ?_⟩
        · rintro σ' H3 ⟨s3, us, u', rfl, e3, r3, l3, n3, len3⟩
          exact ⟨700 - us.length, by omega, s3, us, u', rfl, e3, r3, l3, n3, rfl⟩
        · refine ⟨_, rfl, .inl ⟨rfl, _, SqL.of ex⟩, _, rfl, r, _, _, rfl, rfl, ex, by rw [List.length_map]; omega, ?_⟩
          have sy := same_into (o := HO.lst (ts.map V.int ++ [V.int u])) hr0 sx
          have ey : upd Hx r (.lst (ts.map V.int ++ [V.int u])) r = some (.lst ((ts ++ [u]).map V.int)) := by
            rw [upd_same, List.map_append]
            rfl
          generalize upd Hx r (.lst (ts.map V.int ++ [V.int u])) = Hy at *
          refine ⟨_, rfl, _, rfl, _, rfl, _, r, st, ps, hs, ts ++ [u], rfl, rulV_same sy hR0, hl4, hp1, ho, ey, by rw [List.length_append]; show _ + 1 ≤ _; omega, fun u' H4 nx' s4 => gn ?_⟩
          exact ⟨sy.trans s4, ts ++ [u], u', rfl, s4 _ _ ey, srow', hlt', nx', by rw [List.length_append]; rfl⟩
      · have z : ¬ u < e := fun h => z (decide_eq_true h)
        dsimp only
        refine ⟨_, rfl, r, _, rfl, .inl (SqL.of ex), ?_⟩
        rw [List.length_map]
        exact k _ _ (.inr ⟨hne, ts.length, rfl, ts, srow, rfl, hlt, fun t' ht => by rw [ht.one hn]; omega⟩) sx
/-- the hours that are always open -/
theorem hrs_always (T : D K mg) (H : Hp) : HrsV K H (.ref T.a_ALWAYS) [1] := ⟨_, rfl, .inr T.k_ALWAYS⟩
def spMostW (K : PySem.W.Frag) : Sp := fun vs H Q _ => ∃ (lv : V) (m : Int) (ps : List (Int × Int)), vs = [lv, .int m] ∧ Od H lv (.tuple ((ps.map inD).map tw)) ∧ ps.length ≤ 4 ∧ (∀ p ∈ ps, 1 ≤ p.1 ∧ p.1 ≤ 6 ∧ 1 ≤ p.2) ∧ m ≤ 100 ∧ ∀ v H', MostV ps [1] 0 m v → Same H H' → Q v H'
theorem sc_mostw : FnScope ["limits", "moments"] ["limits", "moments"] (defScope s_most_within) := ⟨rfl, rfl, rfl, by decide +kernel, rfl, by decide +kernel, by decide +kernel⟩
theorem ok_mostw (T : D K mg) : FnOk P w K mg base CX0 5 T.f_most_within T.d_most_within ["limits", "moments"] (spMostW K) := by
  refine T.U_most_within.ok sc_mostw (fun vs H Q E h => ?_) (fun cdv A outer s H vs Q E hr h => ?_)
  · obtain ⟨lv, m, ps, rfl, _⟩ := h
    rfl
  · obtain ⟨lv, m, ps, rfl, hL, hl4, hp, hm, k⟩ := h
    have nd := sc_mostw.nd
    refine ⟨_, pss_one (ps_ret (pe_call (ok_mostb T) hr rfl T.g_most_between T.U_most_between.kp T.b_most_between .nil pass0 (pa_cons (pe_tup (pa_cons (pv 0) (pa_cons (pe_glob (v := .ref T.a_ALWAYS) rfl T.g_ALWAYS rfl) pa_nil))) (pa_cons pe_int (pa_cons (pv 1) pa_nil))))), ?_⟩
    have mz : 5000 ≤ sizeLine := by decide
    refine ⟨_, rfl, by show 2 ≤ sizeLine; omega, fun a ha => ?_⟩
    have sa := same_upd (o := HO.tup [lv, V.ref T.a_ALWAYS]) ha
    refine ⟨_, rfl, _, 0, m, ps, [1], rfl, ⟨a, lv, _, rfl, upd_same, hL.same sa, hrs_always T _⟩, hl4, hp, ⟨0, Nat.zero_lt_one, rfl⟩, by omega, fun v H2 hv s2 => k v H2 hv (sa.trans s2)⟩
end
end KP
set_option Elab.async false
set_option maxRecDepth 100000
set_option maxHeartbeats 4000000
set_option linter.all false
/-! Ours: most, most_from, most_table, of right arguments. -/
namespace KP
open PySem PySem.Spec PyProof.Rows L2 Gr GxR
theorem lims_good {ps : List (Int × Int)} (hl : ps.length ≤ 4) (hp : ∀ p ∈ ps, 1 ≤ p.1 ∧ p.1 ≤ 6 ∧ 1 ≤ p.2 ∧ p.2 ≤ 12) : limsD (.tuple ((ps.map inD).map tw)) = true := by
  have g : Good ps [1] := ⟨hl, hp, Nat.zero_lt_one, by decide, fun x hx => by rw [List.mem_singleton.mp hx]; decide, ⟨0, Nat.zero_lt_one, rfl⟩⟩
  have r := g.rules
  have r : (limsD (.tuple ((ps.map inD).map tw)) && hoursD (.tuple ([1].map PyData.int))) = true := r
  rw [Bool.and_eq_true] at r
  exact r.1
def Lm (ps : List (Int × Int)) : Prop := ps.length ≤ 4 ∧ ∀ p ∈ ps, 1 ≤ p.1 ∧ p.1 ≤ 6 ∧ 1 ≤ p.2 ∧ p.2 ≤ 12
theorem Lm.c {ps : List (Int × Int)} (h : Lm ps) : ∀ p ∈ ps, 1 ≤ p.1 ∧ p.1 ≤ 6 ∧ 1 ≤ p.2 := fun p hp => ⟨(h.2 p hp).1, (h.2 p hp).2.1, (h.2 p hp).2.2.1⟩
end KP
set_option Elab.async false
set_option maxRecDepth 100000
set_option maxHeartbeats 4000000
set_option linter.all false
/-! Ours: any(elt for a, b in e) with captured names; quiet code: a + b, a > b, a <= b. -/
namespace Gr
open PySem PySem.Spec PyProof.Rows L2 GxR
theorem pair_any {f : PyData × PyData → Bool} (l : List (PyData × PyData)) : (l.map tw).any (pairB f) = l.any f := by
  rw [List.any_map]
  rfl
section
variable {X : Cx} {pins : List (Addr × Obj)} {σ : L2.St} {H : Hp} {s : Shared}
def tAnyTF (K : PySem.W.Frag) (P : Addr) (is : List Nat) (dom : List PyData → PyData × PyData → Prop) (pb : List PyData → PyData × PyData → Bool) (te : TE) : TE := fun σ H Q => te σ H fun v H1 => ∃ (pr : List (PyData × PyData)) (fd : List PyData), Dq K H1 v (.tuple (pr.map tw)) ∧ CapD K H1 σ is fd ∧ (∀ q ∈ pr, dom fd q) ∧ TabG H1 P ∧ ∀ H2, Tabbed P H1 H2 → Q (.bl (pr.any (pb fd))) H2
/-- any(elt for a, b in e), e a tuple of pairs -/
theorem pe_anyTF {c P : Addr} {elt iter : Expr} {xa xb : Str} {qa qb qt p pos gpos : Pos} {kt : Nat} {scope : Scope} {xs : List Str} {is : List Nat} {dom : List PyData → PyData × PyData → Prop} {pb : List PyData → PyData × PyData → Bool} {te : TE} {k : Nat}
    (hr : Room (k + 1) X.A) (hg : Gl X "any") (hm : X.mg "any" = none) (TB : TabB X.base X.mg c P) (hcode : X.env.code = .ref c) (S : GenTF X scope xa xb xs is) (hi : PE X iter te) (hel : EltTF X k scope xa xb xs elt dom pb)
    (hs : ∀ v, genFold iter X.env v = pure v)
    (he : starEach [.GeneratorExp elt [⟨.Tuple [.Name xa qa, .Name xb qb] kt qt, iter, [], 0⟩] scope gpos] X.env = (false, eval (.GeneratorExp elt [⟨.Tuple [.Name xa qa, .Name xb qb] kt qt, iter, [], 0⟩] scope gpos) X.env) :: starEach [] X.env := by rfl) :
    PE X (.Call (.Name "any" p) [.GeneratorExp elt [⟨.Tuple [.Name xa qa, .Name xb qb] kt qt, iter, [], 0⟩] scope gpos] [] pos) (tAnyTF X.K P is dom pb te) := by
  refine ⟨fun pins s σ H Q I h => wpAny_Call_Name_kw (ld_blt I hg hm boot_any (PyProof.Rows.callWith_builtin1 ?_ he (by rfl)))⟩
  rw [he]
  show wpAny _ _ (spliced ((false, eval (.GeneratorExp elt [⟨.Tuple [.Name xa qa, .Name xb qb] kt qt, iter, [], 0⟩] scope gpos) X.env) :: backTo pos (starEach [] X.env))) _ _ s
  refine Calls.spliced_cons (genTF (R := fun pr fd H1 => ∀ H2, Tabbed P H1 H2 → Q (.bl (pr.any (pb fd))) H2) hr TB hcode S hi hel hs I h ?_)
  rintro pr fd H1 g z hR ⟨fp, wr, G, F, St, W, hst, htr, hI⟩
  refine Calls.spliced_nil (call_any_walkS (W.self 0 _ _ _ hst ⟨g, fp, wr, G, _, F, St, _, rfl, W, hst, htr, fun s' mv => ?_⟩))
  obtain ⟨H2, hT, J⟩ := hI s' mv
  rw [trD_any (pairB (pb fd)) (pr.map tw), pair_any]
  exact ⟨.bl _, H2, J, rfl, hR H2 hT⟩
end
section
variable {P : Program} {w : World} {K : PySem.W.Frag} {mg : Str → Option Value} {base h0 : Heap} {k : Nat} {env : Env} {m : Str → Option Value}
theorem qe_add {a b : Expr} {i j : Int} {pos : Pos} (ha : QE P w base h0 k env m a (.int i)) (hb : QE P w base h0 k env m b (.int j)) : QE P w base h0 k env m (.BinOp a .Add b pos) (.int (i + j)) := by
  intro B E z q
  refine wpAny_BinOp (thn (ha B E z q) fun u z1 ⟨r1, k1⟩ => thn (hb B E z1 (q.next k1)) fun v z2 ⟨r2, k2⟩ => ?_)
  obtain ⟨t, rfl⟩ := vd_int r1
  obtain ⟨t', rfl⟩ := vd_int r2
  exact add_int ⟨⟨_, .int _ _⟩, kt k1 (kt k2 (keeps_tok _ _))⟩
theorem qe_gt {a b : Expr} {i j : Int} {pos : Pos} (ha : QE P w base h0 k env m a (.int i)) (hb : QE P w base h0 k env m b (.int j)) (hm : behindInMarks .Gt b = false := by with_unfolding_all rfl) : QE P w base h0 k env m (.Compare a [.Gt] [b] pos) (.bool (decide (j < i))) :=
  qe_cmp (c := fun i j => decide (j < i)) ha hb (fun q => gt_int q) hm
end
end Gr
set_option Elab.async false
set_option maxRecDepth 100000
set_option maxHeartbeats 4000000
set_option linter.all false
/-! Ours: shares, parts. -/
namespace KP
open PySem PySem.Spec PyProof.Rows L2 Gr GxR
abbrev limP (ps : List (Int × Int)) : PyData := .tuple ((ps.map inD).map tw)
theorem tup_pair (q : Int × Int) : tupD (tw (inD q)) = true := by simp [tw, inD, tupD, tupDs]
theorem tup_lim (ps : List (Int × Int)) : tupD (limP ps) = true := tupD_tup fun d hd => by
  obtain ⟨q, hq, rfl⟩ := List.mem_map.mp hd
  obtain ⟨p, _, rfl⟩ := List.mem_map.mp hq
  exact tup_pair p
def partP (c : List (Int × Int) × Int) : PyData := .tuple [limP c.1, .int c.2]
theorem tup_part (c : List (Int × Int) × Int) : tupD (partP c) = true := tupD_tup fun d hd => by
  simp only [List.mem_cons, List.not_mem_nil, or_false] at hd
  rcases hd with rfl | rfl
  · exact tup_lim _
  · simp [tupD]
def PartOk (c : List (Int × Int) × Int) : Prop := Lm c.1 ∧ 0 ≤ c.2 ∧ c.2 ≤ 24
def shareP (ps : List (Int × Int)) (n D i : Int) : List (Int × Int) := ps.map fun p => (p.1 / n + (if i < p.1 % n then 1 else 0), p.2 + D)
def spShare : Sp := fun vs H Q _ => ∃ (sv : V) (n D i : Int) (ps : List (Int × Int)), vs = [sv, .int n, .int D, .int i] ∧ Od H sv (limP ps) ∧ Lm ps ∧ 1 ≤ n ∧ n ≤ 6 ∧ ∀ z H', Same H H' → Od H' z (limP (shareP ps n D i)) → Q z H'
def spPart (L : List Addr) : Sp := fun vs H Q _ => ∃ (v : V) (c : List (Int × Int) × Int), vs = [v] ∧ Od H v (partP c) ∧ PartOk c ∧ Tb L H ∧ ∀ H', UpL L H H' → Q (.bl true) H'
def spParts (L : List Addr) : Sp := fun vs H Q _ => ∃ (v : V) (cs : List (List (Int × Int) × Int)), vs = [v] ∧ Od H v (.tuple (cs.map partP)) ∧ 1 ≤ cs.length ∧ cs.length ≤ 6 ∧ (∀ c ∈ cs, PartOk c) ∧ Tb L H ∧ ∀ H', UpL L H H' → Q .non H'
section
variable {P : Program} {w : World} {K : PySem.W.Frag} {mg : Str → Option Value} {base : Heap}
theorem sc_chk : FnScope ["given"] ["given"] (defScope s_check_limits) := ⟨rfl, rfl, rfl, by decide +kernel, rfl, by decide +kernel, by decide +kernel⟩
theorem ok_chk (T : D K mg) (TB : Tabs base T) : FnOk P w K mg base CX0 6 T.f_check_limits T.d_check_limits ["given"] (spChk (tabs T)) := by
  refine T.U_check_limits.ok sc_chk (fun vs H Q E h => ?_) (fun cdv A outer s H vs Q E hr h => ?_)
  · obtain ⟨v, d, rfl, _⟩ := h
    rfl
  · obtain ⟨v, d, rfl, hd, hl, hT, k⟩ := h
    refine ⟨_, pss_one (ps_if (pt_not (pt_val (pe_call (ok_lims T TB) hr rfl T.g_are_limits T.U_are_limits.kp T.b_are_limits .nil pass0 (pa_cons (pv 0) pa_nil))))
        (pss_one ps_never)
        pss_nil), ?_⟩
    refine ⟨_, rfl, v, d, rfl, hd, trivial, hT, fun H2 u2 => ⟨_, rfl, ?_⟩⟩
    rw [hl]
    exact iteF (k H2 u2)
theorem sc_share : FnScope ["shared", "many", "late", "crawler", "pairs", "most", "wide", "more"] ["shared", "many", "late", "crawler"] (defScope s_share_of) := ⟨rfl, rfl, rfl, by decide +kernel, rfl, by decide +kernel, by decide +kernel⟩
theorem ok_share (T : D K mg) : FnOk P w K mg base CX0 1 T.f_share_of T.d_share_of ["shared", "many", "late", "crawler"] spShare := by
  refine T.U_share_of.ok sc_share (fun vs H Q E h => ?_) (fun cdv A outer s H vs Q E hr h => ?_)
  · obtain ⟨sv, n, D, i, ps, rfl, _⟩ := h
    rfl
  · obtain ⟨sv, n, D, i, ps, rfl, hS, hg, n1, n6, k⟩ := h
    have nd := sc_share.nd
    have mz : 5000 ≤ sizeLine := by decide
    refine ⟨_, pss_cons (ps_set (i := 4) nd rfl (.inl rfl) (pe_lst pa_nil))
      (pss_cons (ps_for PassesOwn.never rfl (pi_tup (pv 0)) (pg_tup rfl (pgs_cons (pg_name (i := 5) nd rfl (.inl rfl)) (pgs_cons (pg_name (i := 6) nd rfl (.inl rfl)) pgs_nil)))
        (pss_cons (ps_set (i := 7) nd rfl (.inl rfl) (pe_ifExp (pt_cmpR op_lt (pv 3) (pe_op op_modN (pv 5) (pv 1)) (nomark _)) pe_int pe_int))
        (pss_one (ps_expr (pe_bm PySem.F.plainAttrs_list PySem.F.slot_list_append PySem.F.type_list_append mt_append (pv 4) (pa_cons (pe_tup (pa_cons (pe_op op_add (pe_op op_fdivN (pv 5) (pv 1)) (pv 7)) (pa_cons (pe_op op_add (pv 6) (pv 2)) pa_nil))) pa_nil))))))
      (pss_one (ps_ret (pe_callTy call_tuple_of (by rfl) T.tuple (by decide +kernel) (pa_cons (pv 4) pa_nil))))), ?_⟩
    obtain ⟨la, ls, rfl, el, ol⟩ := od_tup hS
    have lls : ls.length = ps.length := by rw [ol.len, List.length_map, List.length_map]
    refine ⟨by show 0 ≤ sizeLine; omega, fun Dn hDn => gn ?_⟩
    have s0 := same_upd (o := HO.lst []) hDn
    refine ⟨_, rfl, la, rfl, ⟨_, SqT.of (s0 _ _ el)⟩, for_tup (K := K) (a := la) (xs := ls) (fun j σ H5 => (∃ us, H5 Dn = some (.lst us) ∧ us.length = j) ∧ LstT H5 Dn (((shareP (ps.take j) n D i).map inD).map tw) ∧ (∀ b o, H b = some o → H5 b = some o) ∧ ∃ (v5 v6 v7 : Option V), σ = [some (.ref la), some (.int n), some (.int D), some (.int i), some (.ref Dn), v5, v6, v7]) ⟨⟨[], upd_same, rfl⟩, LstT.at upd_same, s0, _, _, _, rfl⟩ (fun j σ H5 _ q => SqT.of (q.2.2.1 _ _ el)) ?_ ?_⟩
    · rintro j x σ H5 hx ⟨⟨us, eu, lu⟩, lt, hold, v5, v6, v7, rfl⟩
      obtain ⟨q, b, hqm, rfl, eb⟩ := pair_at ol hx
      have hj := (List.getElem?_eq_some_iff.mp hqm).1
      have hq := hg.2 q (List.mem_of_getElem? hqm)
      refine ⟨_, _, rfl, SqT.of (hold _ _ eb), rfl, _, _, rfl, _, _, rfl, rfl, ?_⟩
      dsimp only
      refine cut1 (fun σ' H' => H' = H5 ∧ σ' = [some (.ref la), some (.int n), some (.int D), some (.int i), some (.ref Dn), some (.int q.1), some (.int q.2), some (.int (if i < q.1 % n then 1 else 0))]) (fun N hN => ?_) ?_
      · refine ⟨_, rfl, _, rfl, _, rfl, q.1, n, rfl, rfl, by omega, _, _, rfl, rfl, _, rfl, ?_⟩
        rw [Int.fmod_eq_emod_of_nonneg _ (by omega)]
        refine ite2 (fun h => ?_) (fun h => ?_)
        · refine gn (hN _ _ ⟨rfl, ?_⟩)
          rw [if_pos (of_decide_eq_true h)]
          rfl
        · refine gn (hN _ _ ⟨rfl, ?_⟩)
          rw [if_neg (fun z => h (decide_eq_true z))]
          rfl
      · rintro σ' H' ⟨rfl, rfl⟩
        refine ⟨_, rfl, .inl ⟨rfl, _, SqL.of eu⟩, _, rfl, _, rfl, q.1, n, rfl, rfl, ⟨by omega, by omega⟩, _, rfl, _, _, rfl, rfl, _, rfl, _, rfl, _, _, rfl, rfl, by show 2 ≤ sizeLine; omega, fun t ht => ?_⟩
        rw [Int.fdiv_eq_ediv_of_nonneg _ (by omega)]
        have st := same_upd (o := HO.tup [V.int (q.1 / n + (if i < q.1 % n then 1 else 0)), V.int (q.2 + D)]) ht
        have et : upd H' t (.tup [V.int (q.1 / n + (if i < q.1 % n then 1 else 0)), V.int (q.2 + D)]) t = some (.tup [V.int (q.1 / n + (if i < q.1 % n then 1 else 0)), V.int (q.2 + D)]) := upd_same
        replace lt := lt.same st
        replace eu := st _ _ eu
        replace hold := fun b o e => st _ _ (hold b o e)
        generalize upd H' t (.tup [V.int (q.1 / n + (if i < q.1 % n then 1 else 0)), V.int (q.2 + D)]) = H6 at *
        refine ⟨Dn, _, _, rfl, rfl, eu, by have := hg.1; omega, ?_⟩
        refine ⟨⟨_, upd_same, by rw [List.length_append, lu]; rfl⟩, ?_, fun b' o e => (upd_ne (ne_of_none e hDn)).trans (hold b' o e), _, _, _, rfl⟩
        have e2 : ((shareP (ps.take (j + 1)) n D i).map inD).map tw = ((shareP (ps.take j) n D i).map inD).map tw ++ [tw (inD (q.1 / n + (if i < q.1 % n then 1 else 0), q.2 + D))] := by
          unfold shareP
          rw [List.take_add_one, hqm, List.map_append, List.map_append, List.map_append]
          rfl
        rw [e2]
        exact lt.put eu (.tup et (.cons (.int _) (.cons (.int _) .nil))) (tup_pair _)
    · rintro σ H5 ⟨⟨us, eu, lu⟩, lt, hold, v5, v6, v7, rfl⟩
      rw [lls, List.take_length] at lt
      refine ⟨_, rfl, Dn, _, rfl, .inl ⟨SqL.of eu, fun R hR => ?_⟩⟩
      refine k _ _ (fun b o e => same_upd hR _ _ (hold b o e)) (lt.tup eu hR)
theorem sc_part : FnScope ["value"] ["value"] (defScope s_is_part) := ⟨rfl, rfl, rfl, by decide +kernel, rfl, by decide +kernel, by decide +kernel⟩
theorem ok_part (T : D K mg) (TB : Tabs base T) : FnOk P w K mg base CX0 6 T.f_is_part T.d_is_part ["value"] (spPart (tabs T)) := by
  refine T.U_is_part.ok sc_part (fun vs H Q E h => ?_) (fun cdv A outer s H vs Q E hr h => ?_)
  · obtain ⟨v, c, rfl, _⟩ := h
    rfl
  · obtain ⟨v, c, rfl, hd, ⟨hl, d0, d1⟩, hT, k⟩ := h
    refine ⟨_, pss_one (ps_ret (pe_and (pe_call (ok_row T) (hr.mono (by decide)) rfl T.g_is_tuple T.U_is_tuple.kp T.b_is_tuple .nil pass0 (pa_cons (pv 0) (pa_cons pe_int (pa_cons pe_int pa_nil)))) (pe_and (pe_call (ok_lims T TB) hr rfl T.g_are_limits T.U_are_limits.kp T.b_are_limits .nil pass0 (pa_cons (pe_ix ix_tup (pv 0) pe_int (fun _ _ => rfl)) pa_nil)) (pe_one (pe_call (ok_betw T) (hr.mono (by decide)) rfl T.g_is_between T.U_is_between.kp T.b_is_between .nil pass0 (pa_cons (pe_ix ix_tup (pv 0) pe_int (fun _ _ => rfl)) (pa_cons pe_int (pa_cons (pe_glob (v := .int 24) rfl T.g_LATEST ⟨_, rfl⟩) pa_nil)))))))), ?_⟩
    refine ⟨_, rfl, v, _, 2, 2, rfl, hd, ?_⟩
    obtain ⟨a, xs, rfl, ea, oa⟩ := od_tup hd
    match xs, oa with
    | [lv, dv], .cons o1 (.cons o2 .nil) =>
    cases o2
    refine ⟨true, rfl, iteT ?_⟩
    refine ⟨_, rfl, a, _, 0, _, rfl, rfl, SqT.of ea, rfl, lv, _, rfl, o1, trivial, hT, fun H1 u1 => ?_⟩
    rw [lims_good hl.1 hl.2]
    refine ⟨true, rfl, iteT ?_⟩
    have st1 := u1.stay hT
    refine ⟨_, rfl, a, _, 1, _, rfl, rfl, SqT.of (st1 _ _ ea fun _ q => nomatch q), rfl, _, .int c.2, 0, 24, rfl, .int _, ?_⟩
    have e : betwD (.int c.2) 0 24 = true := by
      show (decide (0 ≤ c.2) && decide (c.2 ≤ 24)) = true
      rw [decide_eq_true d0, decide_eq_true d1]
      rfl
    rw [e]
    exact k H1 u1
theorem sc_parts : FnScope ["given", "index", "part"] ["given"] (defScope s_check_parts) := ⟨rfl, rfl, rfl, by decide +kernel, rfl, by decide +kernel, by decide +kernel⟩
theorem ok_parts (T : D K mg) (TB : Tabs base T) : FnOk P w K mg base CX0 7 T.f_check_parts T.d_check_parts ["given"] (spParts (tabs T)) := by
  refine T.U_check_parts.ok sc_parts (fun vs H Q E h => ?_) (fun cdv A outer s H vs Q E hr h => ?_)
  · obtain ⟨v, cs, rfl, _⟩ := h
    rfl
  · obtain ⟨v, cs, rfl, hd, l1, l6, hc, hT, k⟩ := h
    have nd := sc_parts.nd
    refine ⟨_, pss_cons (ps_if (pt_not (pt_val (pe_call (ok_row T) (hr.mono (by decide)) rfl T.g_is_tuple T.U_is_tuple.kp T.b_is_tuple .nil pass0 (pa_cons (pv 0) (pa_cons pe_int (pa_cons (pe_glob (v := .int 6) rfl T.g_MOST_PARTS ⟨_, rfl⟩) pa_nil))))))
        (pss_one (ps_never))
        (pss_nil))
      (pss_one (ps_for PassesOwn.never rfl (pi_enumT (by rfl) T.enumerate (pa_cons (pv 0) pa_nil)) (pg_tup rfl (pgs_cons (pg_name (i := 1) nd rfl (.inl rfl)) (pgs_cons (pg_name (i := 2) nd rfl (.inl rfl)) pgs_nil)))
        (pss_one (ps_if (pt_not (pt_val (pe_call (ok_part T TB) hr rfl T.g_is_part T.U_is_part.kp T.b_is_part .nil pass0 (pa_cons (pv 2) pa_nil))))
          (pss_one (ps_never))
          (pss_nil))))), ?_⟩
    refine ⟨_, rfl, v, _, 1, 6, rfl, hd, _, rfl, ?_⟩
    have e : rowD (.tuple (cs.map partP)) 1 6 = true := by
      show (decide ((1 : Int) ≤ ((cs.map partP).length : Nat)) && decide ((((cs.map partP).length : Nat) : Int) ≤ 6)) = true
      rw [List.length_map, decide_eq_true (by omega), decide_eq_true (by omega)]
      rfl
    rw [e]
    refine iteF (next_of ?_)
    dsimp only
    obtain ⟨a, xs, rfl, ea, oa⟩ := od_tup hd
    refine ⟨_, rfl, a, _, rfl, SqT.of ea, for_it (walk_tp (K := K) (a := a) (xs := xs)) (fun i σ H2 => UpL (tabs T) H H2 ∧ ∃ (v1 v2 : Option V), σ = [some (.ref a), v1, v2]) ⟨.refl hT, none, none, rfl⟩ (fun i σ H2 _ q => SqT.of (q.1.stay hT _ _ ea fun _ z => nomatch z)) ?_ ?_⟩
    · rintro i x σ H2 H3 hi ⟨u2, v1, v2, rfl⟩ ⟨Tt, y, rfl, hTn, rfl, hy⟩
      have u3 := u2.trans (.same u2.1 (same_upd (o := HO.tup [V.int (i : Nat), y]) hTn))
      refine ⟨_, _, rfl, SqT.of upd_same, rfl, _, _, rfl, _, _, rfl, rfl, ?_⟩
      dsimp only
      generalize upd H2 Tt (.tup [V.int (i : Nat), y]) = H3 at *
      obtain ⟨c, hcm, oc⟩ := od_at oa hy
      obtain ⟨c, hcc, rfl⟩ : ∃ c' ∈ cs, partP c' = c := List.mem_map.mp (List.mem_of_getElem? hcm)
      refine ⟨_, rfl, y, c, rfl, oc.stay (u3.stay hT), hc c hcc, u3.1, fun H4 u4 => ⟨_, rfl, iteF ?_⟩⟩
      exact ⟨u3.trans u4, _, _, rfl⟩
    · rintro σ H2 ⟨u2, v1, v2, rfl⟩
      exact k H2 u2
end
end KP
set_option Elab.async false
set_option maxRecDepth 100000
set_option maxHeartbeats 4000000
set_option linter.all false
/-! Ours: broken_limit, keep, breaking, most_crawlers. -/
namespace KP
open PySem PySem.Spec PyProof.Rows L2 Gr GxR
open Classical in
/-- the most asks in so many moments -/
noncomputable def mw (ps : List (Int × Int)) (n : Int) : Nat := if h : ∃ m, Mst ps [1] 0 n m then h.choose else 0
theorem mw_of {ps : List (Int × Int)} {n : Int} {m : Nat} (h : Mst ps [1] 0 n m) : mw ps n = m := by
  have e : ∃ m, Mst ps [1] 0 n m := ⟨m, h⟩
  unfold mw
  rw [dif_pos e]
  exact e.choose_spec.one h
noncomputable def toldV (q : Int × Int) (c : List (Int × Int) × Int) : V := if c.1 = [] then .non else .int (mw c.1 (q.2 + c.2) : Nat)
theorem open_one (t : Int) : openI [1] t = true := by
  unfold openI
  rw [show t % (([1] : List Int).length : Nat) = 0 from by show t % 1 = 0; omega]
  rfl
theorem told_of {q : Int × Int} {c : List (Int × Int) × Int} {v : V} (h1 : 1 ≤ q.2 + c.2) (h : MostV c.1 [1] 0 (q.2 + c.2) v) : v = toldV q c := by
  unfold toldV
  rcases h with ⟨e, ⟨rfl, _⟩ | ⟨_, z⟩⟩ | ⟨e, n, rfl, m⟩
  · rw [if_pos e]
  · have := z 0 (Int.le_refl _) (by omega)
    rw [open_one] at this
    cases this
  · rw [if_neg e, mw_of m]
noncomputable def pairB (cs : List (List (Int × Int) × Int)) (q : Int × Int) : Bool := !(cs.any fun c => c.1.isEmpty) && decide ((cs.map fun c => ((mw c.1 (q.2 + c.2) : Nat) : Int)).sum ≤ q.1)
noncomputable def keepB (cs : List (List (Int × Int) × Int)) (ps : List (Int × Int)) : Bool := ps.all (pairB cs)
theorem told_flat (q : Int × Int) (cs : List (List (Int × Int) × Int)) : (cs.map (toldV q)).all flatV = true := List.all_eq_true.mpr fun v hv => by
  obtain ⟨c, _, rfl⟩ := List.mem_map.mp hv
  unfold toldV
  split <;> rfl
theorem told_in (q : Int × Int) (cs : List (List (Int × Int) × Int)) : inV .non (cs.map (toldV q)) = cs.any fun c => c.1.isEmpty := by
  unfold inV
  rw [List.any_map]
  congr 1
  funext c
  show eqV (toldV q c) .non = c.1.isEmpty
  unfold toldV
  cases h : c.1 with
  | nil => rfl
  | cons a l => rfl
theorem told_ints {q : Int × Int} {cs : List (List (Int × Int) × Int)} (h : (cs.any fun c => c.1.isEmpty) = false) : cs.map (toldV q) = (cs.map fun c => ((mw c.1 (q.2 + c.2) : Nat) : Int)).map V.int := by
  rw [List.map_map]
  refine List.map_congr_left fun c hc => ?_
  have := List.any_eq_false.mp h c hc
  unfold toldV
  rw [if_neg (fun z => by rw [z] at this; exact this rfl)]
  rfl
theorem mw_pos {ps : List (Int × Int)} {n : Int} {m : Nat} (h0 : ps ≠ []) (hp : ∀ p ∈ ps, 1 ≤ p.1) (hn : 1 ≤ n) (h : Mst ps [1] 0 n m) : 1 ≤ m := by
  obtain ⟨ts, h1, h2, h3, h4⟩ := h
  cases hts : ts with
  | cons a l => rw [hts] at h2; rw [← h2]; exact Nat.succ_pos _
  | nil =>
    exfalso
    subst hts
    obtain ⟨t, nx⟩ := nxt_some (ps := ps) (hs := [1]) (rs := []) (st := 0) hp ⟨0, Nat.zero_lt_one, rfl⟩
    have a := h4 t nx
    have b := nx.least 0 ⟨Int.le_refl _, fun x hx => by cases hx⟩ (open_one 0) (List.all_eq_true.mpr fun q hq => by
      unfold apI
      rw [decide_eq_true (show (([] : List Int).length : Int) < q.1 by have := hp q hq; show (0 : Int) < q.1; omega), Bool.true_or])
    omega
def spBroken : Sp := fun vs H Q _ => ∃ (pv sv : V) (cs : List (List (Int × Int) × Int)) (ps : List (Int × Int)), vs = [pv, sv] ∧ Od H pv (.tuple (cs.map partP)) ∧ cs.length ≤ 6 ∧ (∀ c ∈ cs, PartOk c) ∧ Od H sv (limP ps) ∧ Lm ps ∧ ∀ v H', Same H H' → ((keepB cs ps = true ∧ v = .non) ∨ (keepB cs ps = false ∧ ∃ a q, v = .ref a ∧ q ∈ ps ∧ pairB cs q = false ∧ H' a = some (.tup [.int q.1, .int q.2]))) → Q v H'
def spKeep (L : List Addr) : Sp := fun vs H Q _ => ∃ (pv sv : V) (cs : List (List (Int × Int) × Int)) (ps : List (Int × Int)), vs = [pv, sv] ∧ Od H pv (.tuple (cs.map partP)) ∧ 1 ≤ cs.length ∧ cs.length ≤ 6 ∧ (∀ c ∈ cs, PartOk c) ∧ Od H sv (limP ps) ∧ Lm ps ∧ Tb L H ∧ ∀ H', UpL L H H' → Q (.bl (keepB cs ps)) H'
section
variable {P : Program} {w : World} {K : PySem.W.Frag} {mg : Str → Option Value} {base : Heap}
theorem sc_broken : FnScope ["parts", "shared", "pair", "most", "wide", "told", "limits", "late"] ["parts", "shared"] (defScope s_broken_limit) := ⟨rfl, rfl, rfl, by decide +kernel, rfl, by decide +kernel, by decide +kernel⟩
theorem ok_broken (T : D K mg) : FnOk P w K mg base CX0 6 T.f_broken_limit T.d_broken_limit ["parts", "shared"] spBroken := by
  refine T.U_broken_limit.ok sc_broken (fun vs H Q E h => ?_) (fun cdv A outer s H vs Q E hr h => ?_)
  · obtain ⟨pv, sv, cs, ps, rfl, _⟩ := h
    rfl
  · obtain ⟨pv', sv, cs, ps, rfl, hP, l6, hc, hS, hg, k⟩ := h
    have nd := sc_broken.nd
    have mz : 5000 ≤ sizeLine := by decide
    refine ⟨_, pss_cons (ps_for PassesOwn.never rfl (pi_tup (pv 1)) (pg_name (i := 2) nd rfl (.inl rfl))
        (pss_cons (ps_asg (pv 2) (pg_tup rfl (pgs_cons (pg_name (i := 3) nd rfl (.inl rfl)) (pgs_cons (pg_name (i := 4) nd rfl (.inr rfl)) pgs_nil))))
        (pss_cons (ps_setLc (i := 5) (own := [("limits", 6), ("late", 7)]) (g := gTup _ 2 (gCons (gName 6) (gCons (gName 7) gNil))) (tt := tYes) rfl nd rfl rfl (sw_true rfl rfl rfl (by decide +kernel)) (pi_tup (pv 0)) (blkOk_by (N := ["parts", "shared", "pair", "most", "wide", "told", "limits", "late"]) (sc := defScope s_broken_limit) (by decide +kernel)) (fun _ _ _ _ _ => pg_tup rfl (pgs_cons (pg_name (i := 6) nd rfl (.inl rfl)) (pgs_cons (pg_name (i := 7) nd rfl (.inl rfl)) pgs_nil))) (fun _ _ _ _ _ => pts_nil) (fun _ _ _ _ _ => pe_call (ok_mostw T) hr rfl T.g_most_within T.U_most_within.kp T.b_most_within .nil pass0 (pa_cons (pv 6) (pa_cons (pe_op op_add (pv 4) (pv 7)) pa_nil))))
        (pss_one (ps_if (PW.pt (pw_or (pt_cmpR op_in_seq pe_non (pv 5) rfl) (pw_or1 (pt_cmpR op_gt (pe_callB (cr_sum rfl) (by rfl) T.sum (by decide +kernel) (pa_cons (pv 5) pa_nil)) (pv 3) (nomark _)))))
          (pss_one (ps_ret (pv 2)))
          (pss_nil))))))
      (pss_one (ps_ret pe_non)), ?_⟩
    obtain ⟨pa, pxs, rfl, ep, op⟩ := od_tup hP
    obtain ⟨la, ls, rfl, el, ol⟩ := od_tup hS
    have lls : ls.length = ps.length := by rw [ol.len, List.length_map, List.length_map]
    have lpx : pxs.length = cs.length := by rw [op.len, List.length_map]
    refine ⟨_, rfl, la, rfl, ⟨_, SqT.of el⟩, for_tup (K := K) (a := la) (xs := ls) (fun j σ H5 => Same H H5 ∧ (∀ m (hm : m < ps.length), m < j → pairB cs ps[m] = true) ∧ ∃ (v2 v3 v4 v5 v6 v7 : Option V), σ = [some (.ref pa), some (.ref la), v2, v3, v4, v5, v6, v7]) ⟨.refl _, fun _ _ h => absurd h (Nat.not_lt_zero _), _, _, _, _, _, _, rfl⟩ (fun j σ H5 _ q => SqT.of (q.1 _ _ el)) ?_ ?_⟩
    · rintro j x σ H5 hx ⟨s5, hm, v2, v3, v4, v5, v6, v7, rfl⟩
      obtain ⟨q, b, hqm, rfl, eb⟩ := pair_at ol hx
      obtain ⟨hj, hje⟩ := List.getElem?_eq_some_iff.mp hqm
      have hq := hg.2 q (List.mem_of_getElem? hqm)
      refine gn ?_
      refine ⟨_, rfl, b, _, rfl, SqT.of (s5 _ _ eb), rfl, _, _, rfl, _, _, rfl, rfl, ?_⟩
      refine ⟨_, rfl, pa, rfl, ⟨_, SqT.of (s5 _ _ ep)⟩, fun Dn hDn => lc_tup (K := K) (a := pa) (xs := pxs) (fun i Hx => Same H5 Hx ∧ Hx Dn = some (.lst ((cs.take i).map (toldV q)))) ⟨same_upd hDn, upd_same⟩ (fun i Hx _ z => SqT.of (z.1 _ _ (s5 _ _ ep))) ?_ ?_⟩
      · rintro i x Hx hx ⟨sx, ex⟩
        obtain ⟨d, hdm, od⟩ := od_at op hx
        rw [List.getElem?_map] at hdm
        obtain ⟨c, hcm, rfl⟩ := Option.map_eq_some_iff.mp hdm
        have hcc := hc c (List.mem_of_getElem? hcm)
        obtain ⟨t, txs, rfl, et, ot⟩ := od_tup od
        match txs, ot with
        | [lv, dv], .cons o1 (.cons o2 .nil) =>
        cases o2
        have s5x := s5.trans sx
        refine ⟨t, _, rfl, SqT.of (s5x _ _ et), rfl, _, _, rfl, _, _, rfl, rfl, rfl, ?_⟩
        unfold tYes
        dsimp only
        rw [if_pos rfl]
        refine ⟨_, rfl, _, rfl, _, rfl, _, _, rfl, rfl, lv, q.2 + c.2, c.1, rfl, o1.same s5x, hcc.1.1, hcc.1.c, by have := hcc.2; omega, fun v H6 hv s6 => ?_⟩
        have ev := told_of (q := q) (c := c) (by have := hcc.2; omega) hv
        refine ⟨_, s6 _ _ ex, by rw [List.length_map, List.length_take]; omega, same_into hDn (sx.trans s6), ?_⟩
        rw [upd_same, List.take_add_one, hcm, List.map_append, ev]
        rfl
      · rintro Hx ⟨sx, ex⟩
        rw [lpx, List.take_length] at ex
        refine gn ?_
        refine ⟨_, rfl, Dn, _, rfl, .inl (SqL.of ex), rfl, told_flat q cs, ?_⟩
        rw [if_neg Bool.false_ne_true, told_in]
        refine ⟨_, rfl, ?_⟩
        have bad : pairB cs q = false → Q (.ref b) Hx := fun z => k _ _ (s5.trans sx) (.inr ⟨(by
          rw [Bool.eq_false_iff]
          intro y
          have := List.all_eq_true.mp y q (List.mem_of_getElem? hqm)
          rw [z] at this
          cases this), b, q, rfl, List.mem_of_getElem? hqm, z, sx _ _ (s5 _ _ eb)⟩)
        cases hany : (cs.any fun c => c.1.isEmpty) with
        | true =>
          refine iteT ?_
          dsimp only
          refine iteT ⟨_, rfl, bad ?_⟩
          unfold pairB
          rw [hany]
          rfl
        | false =>
          refine iteF ?_
          dsimp only
          refine ⟨_, rfl, Dn, _, rfl, by rw [← told_ints hany]; exact SqL.of ex, _, rfl, _, _, rfl, rfl, _, rfl, ite2 (fun h => ?_) (fun h => ?_)⟩
          · refine ⟨_, rfl, bad ?_⟩
            unfold pairB
            rw [hany, decide_eq_false (by have := of_decide_eq_true h; omega)]
            rfl
          · refine ⟨s5.trans sx, fun m hml hmj => ?_, _, _, _, _, _, _, rfl⟩
            by_cases z : m = j
            · subst z
              rw [hje]
              unfold pairB
              rw [hany, decide_eq_true (by have h : ¬ _ < _ := fun y => h (decide_eq_true y); exact Int.not_lt.mp h)]
              rfl
            · exact hm m hml (by omega)
    · rintro σ H5 ⟨s5, hm, v2, v3, v4, v5, v6, v7, rfl⟩
      rw [lls] at hm
      exact k _ _ s5 (.inl ⟨List.all_eq_true.mpr fun q hq => by
        obtain ⟨m, hml, rfl⟩ := List.getElem_of_mem hq
        exact hm m hml hml, rfl⟩)
theorem sc_keep : FnScope ["parts", "shared"] ["parts", "shared"] (defScope s_keep) := ⟨rfl, rfl, rfl, by decide +kernel, rfl, by decide +kernel, by decide +kernel⟩
theorem ok_keep (T : D K mg) (TB : Tabs base T) : FnOk P w K mg base CX0 8 T.f_keep T.d_keep ["parts", "shared"] (spKeep (tabs T)) := by
  refine T.U_keep.ok sc_keep (fun vs H Q E h => ?_) (fun cdv A outer s H vs Q E hr h => ?_)
  · obtain ⟨pv, sv, cs, ps, rfl, _⟩ := h
    rfl
  · obtain ⟨pv', sv, cs, ps, rfl, hP, l1, l6, hc, hS, hg, hT, k⟩ := h
    refine ⟨_, pss_cons (ps_expr (pe_call (ok_parts T TB) hr rfl T.g_check_parts T.U_check_parts.kp T.b_check_parts .nil pass0 (pa_cons (pv 0) pa_nil)))
      (pss_cons (ps_expr (pe_call (ok_chk T TB) (hr.mono (by decide)) rfl T.g_check_limits T.U_check_limits.kp T.b_check_limits .nil pass0 (pa_cons (pv 1) pa_nil)))
      (pss_one (ps_ret (pe_cmpR op_isN (pe_call (ok_broken T) (hr.mono (by decide)) rfl T.g_broken_limit T.U_broken_limit.kp T.b_broken_limit .nil pass0 (pa_cons (pv 0) (pa_cons (pv 1) pa_nil))) pe_non (nomark _))))), ?_⟩
    refine ⟨_, rfl, pv', cs, rfl, hP, l1, l6, hc, hT, fun H1 u1 => ?_⟩
    have st1 := u1.stay hT
    refine ⟨_, rfl, sv, _, rfl, hS.stay st1, lims_good hg.1 hg.2, u1.1, fun H2 u2 => ?_⟩
    have u12 := u1.trans u2
    have st2 := u12.stay hT
    refine ⟨_, rfl, _, rfl, pv', sv, cs, ps, rfl, hP.stay st2, l6, hc, hS.stay st2, hg, fun v H3 s3 hv => ⟨rfl, ?_⟩⟩
    have q := k H3 (u12.trans (.same u12.1 s3))
    rcases hv with ⟨e, rfl⟩ | ⟨e, a, b, rfl, _⟩
    · rw [e] at q
      exact q
    · rw [e] at q
      exact q
end
end KP
set_option Elab.async false
set_option maxRecDepth 100000
set_option linter.all false
/-! Ours: dealt shares keep the shared limits: the mathematics. -/
namespace KP
open PySem PySem.Spec PyProof.Rows L2 Gr GxR
theorem row_ex {ps : List (Int × Int)} {hs : List Int} {st : Int} (hp : ∀ p ∈ ps, 1 ≤ p.1) (ho : ∃ j : Nat, ∃ h : j < hs.length, hs[j] = 1) : ∀ N : Nat, ∃ ts, SRow ps hs [] st ts ∧ ts.length = N
  | 0 => ⟨[], SRow.nil, rfl⟩
  | N + 1 => by
    obtain ⟨ts, sr, l⟩ := row_ex (st := st) hp ho N
    obtain ⟨t, nx⟩ := nxt_some (ps := ps) (hs := hs) (rs := ts) (st := st) hp ho
    exact ⟨ts ++ [t], sr.snoc (by rw [List.nil_append]; exact nx), by rw [List.length_append, l]; rfl⟩
theorem mst_row {ps : List (Int × Int)} {hs ts : List Int} {st e : Int} (sr : SRow ps hs [] st ts) {i : Nat} (hi : i < ts.length) (h : e ≤ ts[i]) : ∃ m, Mst ps hs st e m ∧ m ≤ i := by
  obtain ⟨m, ⟨hm, he⟩, hl⟩ := least_natR (P := fun k => ∃ h : k < ts.length, e ≤ ts[k]) i ⟨hi, h⟩
  have hmi : m ≤ i := by
    by_cases z : m ≤ i
    · exact z
    · exact absurd ⟨hi, h⟩ (hl i (by omega))
  refine ⟨m, ⟨ts.take m, sr.take m, by rw [List.length_take]; omega, fun t ht => ?_, fun t nx => ?_⟩, hmi⟩
  · obtain ⟨j, hj, rfl⟩ := List.getElem_of_mem ht
    rw [List.length_take] at hj
    rw [List.getElem_take]
    have := hl j (by omega)
    by_cases z : ts[j] < e
    · exact z
    · exact absurd ⟨by omega, by omega⟩ this
  · have n := sr m hm
    rw [List.nil_append] at n
    rw [nx.one n]
    exact he
theorem mst_ex {ps : List (Int × Int)} (h0 : ps ≠ []) (g : Lm ps) {n : Int} (n0 : 0 ≤ n) : ∃ m, Mst ps [1] 0 n m ∧ (m : Int) ≤ 6 * n := by
  obtain ⟨p, l, rfl⟩ := List.exists_cons_of_ne_nil h0
  have hq := g.c p List.mem_cons_self
  obtain ⟨ts, sr, lt⟩ := row_ex (ps := p :: l) (hs := [1]) (st := 0) (fun q hq => (g.2 q hq).1) ⟨0, Nat.zero_lt_one, rfl⟩ (6 * n.toNat + 1)
  have gr := row_grow List.mem_cons_self (K := 6) ⟨hq.1, hq.2.1⟩ (W := 1) hq.2.2 (by decide) sr n.toNat (6 * n.toNat) (by omega) (by omega)
  obtain ⟨m, hm, hi⟩ := mst_row sr (i := 6 * n.toNat) (by omega) (e := n) (by omega)
  exact ⟨m, hm, by omega⟩
theorem mw_spec {ps : List (Int × Int)} (h0 : ps ≠ []) (g : Lm ps) {n : Int} (n0 : 0 ≤ n) : Mst ps [1] 0 n (mw ps n) ∧ ((mw ps n : Nat) : Int) ≤ 6 * n := by
  obtain ⟨m, h, l⟩ := mst_ex h0 g n0
  rw [mw_of h]
  exact ⟨h, l⟩
/-- how many stand in the w moments up to x -/
def winN (x w : Int) (l : List Int) : Nat := l.countP fun a => decide (x - w < a) && decide (a ≤ x)
theorem win_le_above {x w a : Int} (h : a ≤ x) (l : List Int) : winN x w l ≤ above (a - w) l := List.countP_mono_left fun y _ hy => by
  simp only [Bool.and_eq_true, decide_eq_true_eq] at hy ⊢
  omega
theorem row_win {ps : List (Int × Int)} {hs ts : List Int} {st : Int} (sr : SRow ps hs [] st ts) {p : Int × Int} (hp : p ∈ ps) (h1 : 1 ≤ p.1) (x : Int) : ((winN x p.2 ts : Nat) : Int) ≤ p.1 := by
  have key : ∀ j, j ≤ ts.length → ((winN x p.2 (ts.take j) : Nat) : Int) ≤ p.1 := fun j => by
    induction j with
    | zero => intro _; rw [List.take_zero]; show (0 : Int) ≤ p.1; omega
    | succ j ih =>
      intro hj
      have hj' : j < ts.length := by omega
      have e : winN x p.2 (ts.take (j + 1)) = winN x p.2 (ts.take j) + (if (decide (x - p.2 < ts[j]) && decide (ts[j] ≤ x)) = true then 1 else 0) := by
        unfold winN
        rw [List.take_add_one, List.getElem?_eq_getElem hj', List.countP_append]
        show _ + List.countP _ [ts[j]] = _
        rw [List.countP_singleton]
      rw [e]
      by_cases z : (decide (x - p.2 < ts[j]) && decide (ts[j] ≤ x)) = true
      · rw [if_pos z]
        simp only [Bool.and_eq_true, decide_eq_true_eq] at z
        have a := List.all_eq_true.mp (sr j hj').all p hp
        rw [List.nil_append, ap_count (row_srt0 (sr.take j)) h1] at a
        have a := of_decide_eq_true a
        have b := win_le_above (x := x) (w := p.2) z.2 (ts.take j)
        omega
      · rw [if_neg z]
        have := ih (by omega)
        omega
  have := key ts.length (Nat.le_refl _)
  rwa [List.take_of_length_le (Nat.le_refl _)] at this
def partK (n : Int) (p : Int × Int) (i : Nat) : Int := p.1 / n + (if (i : Int) < p.1 % n then 1 else 0)
theorem share_mem {ps : List (Int × Int)} {p : Int × Int} (hp : p ∈ ps) (n D : Int) (i : Nat) : (partK n p i, p.2 + D) ∈ shareP ps n D (i : Nat) := List.mem_map.mpr ⟨p, hp, rfl⟩
theorem ind_sum {r : Int} (r0 : 0 ≤ r) : ∀ n : Nat, ((List.range n).map fun i : Nat => (if (i : Int) < r then (1 : Int) else 0)).sum = if (n : Int) ≤ r then (n : Int) else r
  | 0 => by
    rw [if_pos (by exact r0)]
    rfl
  | n + 1 => by
    rw [List.range_succ, List.map_append, List.sum_append, ind_sum r0 n]
    show _ + ((if (n : Int) < r then (1 : Int) else 0) + 0) = _
    by_cases z : (n : Int) < r
    · rw [if_pos (by omega), if_pos z, if_pos (by omega)]
      omega
    · rw [if_neg z, if_neg (show ¬ (((n + 1 : Nat) : Nat) : Int) ≤ r by omega)]
      by_cases y : (n : Int) ≤ r
      · rw [if_pos y]; omega
      · rw [if_neg y]; omega
theorem const_sum (c : Int) : ∀ n : Nat, ((List.range n).map fun _ : Nat => c).sum = n * c
  | 0 => by simp
  | n + 1 => by
    rw [List.range_succ, List.map_append, List.sum_append, const_sum c n]
    show _ + (c + 0) = _
    rw [Int.natCast_add, Int.add_mul]
    simp
theorem add_sum (f g : Nat → Int) : ∀ n : Nat, ((List.range n).map fun i => f i + g i).sum = ((List.range n).map f).sum + ((List.range n).map g).sum
  | 0 => rfl
  | n + 1 => by
    rw [List.range_succ, List.map_append, List.map_append, List.map_append, List.sum_append, List.sum_append, List.sum_append, add_sum f g n]
    show _ + ((f n + g n) + 0) = (_ + (f n + 0)) + (_ + (g n + 0))
    omega
theorem part_sum {p : Int × Int} {n : Nat} (n1 : 1 ≤ n) : ((List.range n).map (partK (n : Nat) p)).sum = p.1 := by
  have e : ((List.range n).map (partK (n : Nat) p)) = (List.range n).map fun i => (fun _ : Nat => p.1 / ((n : Nat) : Int)) i + (fun i : Nat => if (i : Int) < p.1 % ((n : Nat) : Int) then (1 : Int) else 0) i := rfl
  rw [e, add_sum, const_sum, ind_sum (Int.emod_nonneg _ (by omega))]
  have := Int.emod_lt_of_pos p.1 (b := ((n : Nat) : Int)) (by omega)
  rw [if_neg (by omega)]
  exact Int.mul_ediv_add_emod p.1 _
theorem sum_mono {f g : Nat → Int} : ∀ {n : Nat}, (∀ i, i < n → f i ≤ g i) → ((List.range n).map f).sum ≤ ((List.range n).map g).sum
  | 0, _ => Int.le_refl _
  | n + 1, h => by
    rw [List.range_succ, List.map_append, List.map_append, List.sum_append, List.sum_append]
    have := sum_mono (n := n) fun i hi => h i (by omega)
    have := h n (by omega)
    show _ + (f n + 0) ≤ _ + (g n + 0)
    omega
/-- a share's most asks in the delayed moments -/
theorem mw_part {ps : List (Int × Int)} {p : Int × Int} (hp : p ∈ ps) {n D : Int} {i : Nat} (g : Lm (shareP ps n D (i : Nat))) (w0 : 0 ≤ p.2 + D) : ((mw (shareP ps n D (i : Nat)) (p.2 + D) : Nat) : Int) ≤ partK n p i := by
  have hm := share_mem hp n D i
  obtain ⟨⟨ts, h1, h2, h3, h4⟩, _⟩ := mw_spec (List.ne_nil_of_mem hm) g w0
  have a := row_win h1 hm (g.2 _ hm).1 (p.2 + D - 1)
  have e : winN (p.2 + D - 1) (p.2 + D) ts = ts.length := by
    unfold winN
    refine List.countP_eq_length.mpr fun t ht => ?_
    have := h3 t ht
    have := row_from h1 t ht
    simp only [Bool.and_eq_true, decide_eq_true_eq]
    omega
  have a : ((winN (p.2 + D - 1) (p.2 + D) ts : Nat) : Int) ≤ partK n p i := a
  rw [e, h2] at a
  exact a
/-- sorted asks with no full window are polite -/
theorem polite_win {ps : List (Int × Int)} {ms : List Int} (hp : ∀ p ∈ ps, 1 ≤ p.1 ∧ 1 ≤ p.2) (sr : Srt ms) (h : ∀ p ∈ ps, ∀ x, ((winN x p.2 ms : Nat) : Int) ≤ p.1) : Polite ps [1] ms := fun j hj => by
  have eg : ms.getD j 0 = ms[j] := by rw [List.getD_eq_getElem?_getD, List.getElem?_eq_getElem hj]; rfl
  unfold politeAt
  rw [eg, open_one, Bool.true_and]
  refine List.all_eq_true.mpr fun p hp' => ?_
  have hsr : Srt (ms.take j) := fun a b ha hb hab => by
    rw [List.length_take] at ha hb
    rw [List.getElem_take, List.getElem_take]
    exact sr a b (by omega) (by omega) hab
  rw [ap_count hsr (hp p hp').1]
  refine decide_eq_true ?_
  have a := h p hp' ms[j]
  have hw := (hp p hp').2
  have e : winN ms[j] p.2 ms = winN ms[j] p.2 (ms.take j) + winN ms[j] p.2 (ms.drop j) := by
    unfold winN
    rw [← List.countP_append, List.take_append_drop]
  have b : above (ms[j] - p.2) (ms.take j) ≤ winN ms[j] p.2 (ms.take j) := List.countP_mono_left fun y hy hz => by
    obtain ⟨i, hi, rfl⟩ := List.getElem_of_mem hy
    rw [List.length_take] at hi
    rw [List.getElem_take] at hz ⊢
    have := sr i j (by omega) hj (by omega)
    simp only [Bool.and_eq_true, decide_eq_true_eq] at hz ⊢
    omega
  have c : 1 ≤ winN ms[j] p.2 (ms.drop j) := by
    unfold winN
    rw [List.drop_eq_getElem_cons hj, List.countP_cons_of_pos (by simp only [Bool.and_eq_true, decide_eq_true_eq]; omega)]
    omega
  omega
theorem srt_of_pairwise : ∀ {l : List Int}, l.Pairwise (· ≤ ·) → Srt l := fun {l} h i j hi hj hij => by
  by_cases z : i = j
  · subst z; exact Int.le_refl _
  · exact List.pairwise_iff_getElem.mp h i j hi hj (by omega)
end KP
set_option Elab.async false
set_option maxRecDepth 100000
set_option linter.all false
/-! Ours: rows by their counts: the mathematics of _law_best. -/
namespace KP
open PySem PySem.Spec PyProof.Rows L2 Gr GxR
structure RowP (ps : List (Int × Int)) (hs : List Int) (st e : Int) (rs : List Int) : Prop where
  srt : Srt rs
  lo : ∀ x ∈ rs, st ≤ x
  hi : ∀ x ∈ rs, x < e
  opn : ∀ x ∈ rs, openI hs x = true
  pol : ∀ (i : Nat) (h : i < rs.length), ps.all (apI (rs.take i) rs[i]) = true
theorem above_app (c : Int) (a b : List Int) : above c (a ++ b) = above c a + above c b := by
  unfold above
  exact List.countP_append
theorem RowP.take {ps : List (Int × Int)} {hs : List Int} {st e : Int} {rs : List Int} (r : RowP ps hs st e rs) (k : Nat) : RowP ps hs st e (rs.take k) :=
  ⟨srt_take r.srt k, fun x hx => r.lo x (List.mem_of_mem_take hx), fun x hx => r.hi x (List.mem_of_mem_take hx), fun x hx => r.opn x (List.mem_of_mem_take hx), fun i hi => by
    rw [List.length_take] at hi
    rw [List.getElem_take, List.take_take, show min i k = i by omega]
    exact r.pol i (by omega)⟩
/-- a row's window is never too full -/
theorem RowP.full {ps : List (Int × Int)} {hs : List Int} {st e : Int} {rs : List Int} (r : RowP ps hs st e rs) {p : Int × Int} (hp : p ∈ ps) (h1 : 1 ≤ p.1 ∧ 1 ≤ p.2) {x : Int} (hx : ∀ y ∈ rs, y ≤ x) : ((above (x - p.2) rs : Nat) : Int) ≤ p.1 := by
  by_cases z : rs.length = 0
  · rw [List.eq_nil_of_length_eq_zero z]
    show (0 : Int) ≤ _
    omega
  · have hl : rs.length - 1 < rs.length := by omega
    have a := List.all_eq_true.mp (r.pol (rs.length - 1) hl) p hp
    rw [ap_count (srt_take r.srt _) h1.1] at a
    have a := of_decide_eq_true a
    have le := hx _ (List.getElem_mem hl)
    have mono : ∀ {c d : Int}, c ≤ d → above d rs ≤ above c rs := fun {c d} h => List.countP_mono_left fun y _ hy => decide_eq_true (by have := of_decide_eq_true hy; omega)
    have m := mono (c := rs[rs.length - 1] - p.2) (d := x - p.2) (by omega)
    have e1 := above_split (rs[rs.length - 1] - p.2) rs (rs.length - 1)
    have e2 := above_le (rs[rs.length - 1] - p.2) (rs.drop (rs.length - 1))
    rw [List.length_drop] at e2
    omega
theorem RowP.of {ps : List (Int × Int)} {hs ts : List Int} {st e : Int} (sr : SRow ps hs [] st ts) (h : ∀ x ∈ ts, x < e) : RowP ps hs st e ts :=
  ⟨row_srt0 sr, row_from sr, h, fun x hx => by
    obtain ⟨i, hi, rfl⟩ := List.getElem_of_mem hx
    exact (sr i hi).opn, fun i hi => (sr i hi).all⟩
/-- no row has more asks than the row of the next ones -/
theorem row_most {ps : List (Int × Int)} {hs : List Int} {st e : Int} {n : Nat} {rs : List Int} (hp : ∀ p ∈ ps, 1 ≤ p.1) (ho : ∃ j : Nat, ∃ h : j < hs.length, hs[j] = 1) (m : Mst ps hs st e n) (r : RowP ps hs st e rs) : rs.length ≤ n := by
  obtain ⟨us, k1, k2, k3, k4⟩ := m
  by_cases z : rs.length ≤ n
  · exact z
  · have step : ∀ (i : Nat) (t : Int), (hu : i ≤ us.length) → (hi : i < rs.length) → IsNxt ps hs (us.take i) st t → (∀ (j : Nat) (h : j < i), us[j]'(by omega) ≤ rs[j]'(by omega)) → t ≤ rs[i] := fun i t hu hi nx hj => by
      refine lead_nxt (rs := rs.take i) hp nx (by rw [List.length_take, List.length_take]; omega) (fun j h => ?_) (r.lo _ (List.getElem_mem hi)) (fun x hx => ?_) (r.opn _ (List.getElem_mem hi)) (r.pol i hi)
      · rw [List.length_take] at h
        rw [List.getElem_take, List.getElem_take]
        exact hj j (by omega)
      · obtain ⟨j, h, rfl⟩ := List.getElem_of_mem hx
        rw [List.length_take] at h
        rw [List.getElem_take]
        exact r.srt j i (by omega) hi (by omega)
    have dom : ∀ (i : Nat) (h : i < us.length), us[i] ≤ rs[i]'(by omega) := fun i => by
      induction i using Nat.strongRecOn with
      | ind i ih =>
        intro h
        have nx := k1 i h
        rw [List.nil_append] at nx
        exact step i _ (by omega) (by omega) nx fun j hj => ih j hj (by omega)
    obtain ⟨t, nx⟩ := nxt_some (ps := ps) (hs := hs) (rs := us) (st := st) hp ho
    have a := step us.length t (Nat.le_refl _) (by omega) (by rw [List.take_of_length_le (Nat.le_refl _)]; exact nx) fun j hj => dom j hj
    have b := k4 t nx
    have c := r.hi _ (List.getElem_mem (l := rs) (n := us.length) (by omega))
    omega
end KP
set_option Elab.async false
set_option maxRecDepth 100000
set_option maxHeartbeats 4000000
set_option linter.all false
/-! Ours: the law's dealt, below, close. -/
namespace KP
open PySem PySem.Spec PyProof.Rows L2 Gr GxR
noncomputable def belowI (ps : List (Int × Int)) (n : Int) : Int := if ps = [] then 99 else (mw ps n : Nat)
end KP
set_option Elab.async false
set_option maxRecDepth 100000
set_option maxHeartbeats 4000000
set_option linter.all false
/-! Ours: rows that are lists: first_back, first_wrong_ask, _law_wrong_at; soonest_asks with hours written. -/
namespace KP
open PySem PySem.Spec PyProof.Rows L2 Gr GxR
def spBackL : Sp := fun vs H Q _ => ∃ (a : Addr) (ns : List Int), vs = [.ref a] ∧ H a = some (.lst (ns.map V.int)) ∧ asc 0 ns ∧ ∀ H', Same H H' → Q .non H'
def spFirstL (K : PySem.W.Frag) (L : List Addr) : Sp := fun vs H Q _ => ∃ (rv : V) (a : Addr) (ps : List (Int × Int)) (hs ns : List Int), vs = [rv, .ref a] ∧ RulV K H rv ps hs ∧ (∀ p ∈ ps, 1 ≤ p.1) ∧ 0 < hs.length ∧ H a = some (.lst (ns.map V.int)) ∧ ns.length ≤ 1000 ∧ Polite ps hs ns ∧ Tb L H ∧ ∀ H', UpL L H H' → Q .non H'
def spSoonK (K : PySem.W.Frag) : Sp := fun vs H Q _ => ∃ (rv : V) (r : Addr) (n st : Int) (ps : List (Int × Int)) (hs ns : List Int), vs = [rv, .ref r, .int n, .int st] ∧ RulV K H rv ps hs ∧ ps.length ≤ 4 ∧ (∀ p ∈ ps, 1 ≤ p.1) ∧ (∃ j : Nat, ∃ h : j < hs.length, hs[j] = 1) ∧ (SqL K H r (ns.map V.int) ∨ SqT K H r (ns.map V.int)) ∧ ns.length ≤ 1000 ∧ 0 ≤ n ∧ n ≤ 1000 ∧
  ∀ z ts H', Same H H' → H' z = some (.lst (ts.map V.int)) → ts.length = n.toNat → SRow ps hs ns st ts → Q (.ref z) H'
def spWrongL : Sp := fun vs H Q _ => ∃ (lv hv : V) (a : Addr) (ps : List (Int × Int)) (hs ns : List Int), vs = [lv, hv, .ref a] ∧ Od H lv (.tuple ((ps.map inD).map tw)) ∧ (∀ p ∈ ps, 1 ≤ p.1 ∧ 1 ≤ p.2 ∧ p.2 ≤ 1000) ∧ Od H hv (.tuple (hs.map PyData.int)) ∧ 0 < hs.length ∧ H a = some (.lst (ns.map V.int)) ∧ Srt ns ∧ ns.length ≤ 1000 ∧ ∀ H', Same H H' → Q (optV (firstI ps hs ns)) H'
theorem hrsV_stay {K : PySem.W.Frag} {H H' : Hp} {v : V} {hs : List Int} (s : Stay H H') (h : HrsV K H v hs) : HrsV K H' v hs := by
  obtain ⟨a, e, h⟩ := h
  exact ⟨a, e, h.elim (fun h => .inl (h.elim (fun h => .inl (s _ _ h fun _ q => nomatch q)) fun ⟨o, h⟩ => .inr ⟨o, s _ _ h fun _ q => nomatch q⟩)) .inr⟩
section
variable {P : Program} {w : World} {K : PySem.W.Frag} {mg : Str → Option Value} {base : Heap}
theorem sc_backL : FnScope ["values", "least", "index", "moment"] ["values"] (defScope s_first_back) := ⟨rfl, rfl, rfl, by decide +kernel, rfl, by decide +kernel, by decide +kernel⟩
theorem ok_backL (T : D K mg) : FnOk P w K mg base CX0 2 T.f_first_back T.d_first_back ["values"] spBackL := by
  refine T.U_first_back.ok sc_backL (fun vs H Q E h => ?_) (fun cdv A outer s H vs Q E hr h => ?_)
  · obtain ⟨a, ns, rfl, _⟩ := h
    rfl
  · obtain ⟨a, ns, rfl, ea, ha, k⟩ := h
    have nd := sc_backL.nd
    refine ⟨_, pss_cons (ps_set (i := 1) nd rfl (.inl rfl) pe_int)
      (pss_cons (ps_for PassesOwn.never rfl (pi_enum (by rfl) T.enumerate (pa_cons (pv 0) pa_nil)) (pg_tup rfl (pgs_cons (pg_name (i := 2) nd rfl (.inl rfl)) (pgs_cons (pg_name (i := 3) nd rfl (.inl rfl)) pgs_nil)))
        (pss_cons (ps_if (PW.pt (pw_or (pt_not (pt_val (pe_call (ok_whole T) hr rfl T.g_is_whole T.U_is_whole.kp T.b_is_whole .nil pass0 (pa_cons (pv 3) pa_nil)))) (pw_or1 (pt_cmpR op_lt (pv 3) (pv 1) (nomark _)))))
          (pss_one (ps_ret (pv 2)))
          (pss_nil))
        (pss_one (ps_set (i := 1) nd rfl (.inl rfl) (pv 3)))))
      (pss_one (ps_ret pe_non))), ?_⟩
    refine gn ?_
    dsimp only
    refine ⟨_, rfl, a, _, rfl, SqL.of ea, for_it (walk_enum (K := K) (a := a) (xs := ns.map V.int)) (fun i σ H2 => Same H H2 ∧ ∃ (m : Int) (v2 v3 : Option V), asc m (ns.drop i) ∧ σ = [some (.ref a), some (.int m), v2, v3]) ⟨.refl _, 0, none, none, ha, rfl⟩ (fun i σ H2 _ q => SqL.of (q.1 _ _ ea)) ?_ ?_⟩
    · rintro i x σ H2 H3 hi ⟨s2, m, v2, v3, hm, rfl⟩ ⟨Tt, x0, y, rfl, hTn, rfl, hx0, hy⟩
      cases hx0
      dsimp only at hy
      rw [List.length_map] at hi
      rw [List.getElem?_map, List.getElem?_eq_getElem hi] at hy
      cases hy
      have s3 := s2.trans (same_upd (o := HO.tup [V.int (i : Nat), V.int ns[i]]) hTn)
      rw [List.drop_eq_getElem_cons hi] at hm
      refine ⟨_, _, rfl, SqT.of upd_same, rfl, _, _, rfl, _, _, rfl, rfl, ?_⟩
      dsimp only
      refine ⟨_, rfl, _, .int ns[i], rfl, .int _, _, rfl, iteF ⟨_, rfl, _, rfl, _, _, rfl, rfl, _, rfl, ite2 (fun h => ?_) (fun _ => ?_)⟩⟩
      · have := of_decide_eq_true h
        have := hm.1
        omega
      · refine next_of ?_
        dsimp only
        exact ⟨_, rfl, s3, ns[i], _, _, hm.2, rfl⟩
    · rintro σ H2 ⟨s2, m, v2, v3, hm, rfl⟩
      exact k H2 s2
theorem sc_firstL : FnScope ["rules", "asks", "limits", "hours", "index", "moment"] ["rules", "asks"] (defScope s_first_wrong_ask) := ⟨rfl, rfl, rfl, by decide +kernel, rfl, by decide +kernel, by decide +kernel⟩
theorem ok_firstL (T : D K mg) (TB : Tabs base T) : FnOk P w K mg base CX0 4 T.f_first_wrong_ask T.d_first_wrong_ask ["rules", "asks"] (spFirstL K (tabs T)) := by
  refine T.U_first_wrong_ask.ok sc_firstL (fun vs H Q E h => ?_) (fun cdv A outer s H vs Q E hr h => ?_)
  · obtain ⟨rv, a, ps, hs, ns, rfl, _⟩ := h
    rfl
  · obtain ⟨rv, a, ps, hs, ns, rfl, hR, h1, h0, ea, hn, hpo, hT, k⟩ := h
    have nd := sc_firstL.nd
    refine ⟨_, pss_cons (ps_asg (pv 0) (pg_tup rfl (pgs_cons (pg_name (i := 2) nd rfl (.inl rfl)) (pgs_cons (pg_name (i := 3) nd rfl (.inl rfl)) pgs_nil))))
      (pss_cons (ps_for PassesOwn.never rfl (pi_enum (by rfl) T.enumerate (pa_cons (pv 1) pa_nil)) (pg_tup rfl (pgs_cons (pg_name (i := 4) nd rfl (.inl rfl)) (pgs_cons (pg_name (i := 5) nd rfl (.inl rfl)) pgs_nil)))
        (pss_one (ps_if (PW.pt (pw_or (pt_not (pt_val (pe_call (ok_opensK T) (hr.mono (by decide)) rfl T.g_opens T.U_opens.kp T.b_opens .nil pass0 (pa_cons (pv 3) (pa_cons (pv 5) pa_nil))))) (pw_or1 (pt_not (pt_val (pe_call (ok_apartL T TB.c (L := tabs T) (by simp [tabs])) hr rfl T.g_keeps_apart T.U_keeps_apart.kp T.b_keeps_apart .nil pass0 (pa_cons (pv 2) (pa_cons (pe_slice sl_list (pv 1) po_none (po_some (pv 4))) (pa_cons (pv 5) pa_nil)))))))))
          (pss_one (ps_ret (pv 4)))
          (pss_nil))))
      (pss_one (ps_ret pe_non))), ?_⟩
    obtain ⟨ra, lv, hv, rfl, era, oL, oH⟩ := hR
    refine ⟨_, rfl, ra, _, rfl, SqT.of era, rfl, _, _, rfl, _, _, rfl, rfl, ?_⟩
    dsimp only
    refine ⟨_, rfl, a, _, rfl, SqL.of ea, for_it (walk_enum (K := K) (a := a) (xs := ns.map V.int)) (fun i σ H2 => UpL (tabs T) H H2 ∧ ∃ (v4 v5 : Option V), σ = [some (.ref ra), some (.ref a), some lv, some hv, v4, v5]) ⟨.refl hT, none, none, rfl⟩ (fun i σ H2 _ q => SqL.of (q.1.stay hT _ _ ea fun _ z => nomatch z)) ?_ ?_⟩
    · rintro i x σ H2 H3 hi ⟨u2, v4, v5, rfl⟩ ⟨Tt, x0, y, rfl, hTn, rfl, hx0, hy⟩
      cases hx0
      dsimp only at hy
      rw [List.length_map] at hi
      rw [List.getElem?_map, List.getElem?_eq_getElem hi] at hy
      cases hy
      have u3 := u2.trans (.same u2.1 (same_upd (o := HO.tup [V.int (i : Nat), V.int ns[i]]) hTn))
      refine ⟨_, _, rfl, SqT.of upd_same, rfl, _, _, rfl, _, _, rfl, rfl, ?_⟩
      dsimp only
      generalize upd H2 Tt (.tup [V.int (i : Nat), V.int ns[i]]) = H3 at *
      have st := u3.stay hT
      have ea3 := st _ _ ea fun _ z => nomatch z
      have eg : ns.getD i 0 = ns[i] := by rw [List.getD_eq_getElem?_getD, List.getElem?_eq_getElem hi]; rfl
      have ep := hpo i hi
      unfold politeAt at ep
      rw [eg, Bool.and_eq_true] at ep
      refine ⟨_, rfl, _, rfl, hv, hs, ns[i], rfl, hrsV_stay st oH, h0, _, rfl, ?_⟩
      rw [ep.1]
      refine iteF ⟨_, rfl, _, rfl, _, rfl, _, rfl, a, _, rfl, SqL.of ea3, fun c hc => ?_⟩
      have s4 := same_upd (o := HO.lst ((ns.take i).map V.int)) hc
      have ec : cutV (ns.map V.int) none (some (i : Int)) = (ns.take i).map V.int := by rw [cutV_to, List.map_take]
      rw [ec]
      have u4 := u3.trans (.same u3.1 s4)
      refine ⟨_, rfl, lv, .ref c, ns[i], ps, ns.take i, rfl, (oL.stay st).same s4, h1, .lst upd_same (ints_od _), by rw [List.length_take]; omega, u4.1, fun H5 t5 => ⟨_, rfl, ?_⟩⟩
      rw [ep.2]
      exact iteF ⟨u4.trans t5, _, _, rfl⟩
    · rintro σ H2 ⟨u2, v4, v5, rfl⟩
      exact k H2 u2
theorem sc_soonK : FnScope ["rules", "asks", "many", "since", "rows", "_"] ["rules", "asks", "many", "since"] (defScope s_soonest_asks) := ⟨rfl, rfl, rfl, by decide +kernel, rfl, by decide +kernel, by decide +kernel⟩
theorem ok_soonK (T : D K mg) : FnOk P w K mg base CX0 4 T.f_soonest_asks T.d_soonest_asks ["rules", "asks", "many", "since"] (spSoonK K) := by
  refine T.U_soonest_asks.ok sc_soonK (fun vs H Q E h => ?_) (fun cdv A outer s H vs Q E hr h => ?_)
  · obtain ⟨rv, r, n, st, ps, hs, ns, rfl, _⟩ := h
    rfl
  · obtain ⟨rv, r, nn, st, ps, hs, ns, rfl, hR, hl4, hp, ho, er, hn, n0, n1, k⟩ := h
    have nd := sc_soonK.nd
    have mz : 5000 ≤ sizeLine := by decide
    refine ⟨_, pss_cons (ps_set (i := 4) nd rfl (.inl rfl) (pe_callTy call_list_of (by rfl) T.list (by decide +kernel) (pa_cons (pv 1) pa_nil)))
      (pss_cons (ps_for PassesOwn.never rfl (pi_range1 rfl T.range (pa_cons (pv 2) pa_nil)) (pg_name (i := 5) nd rfl (.inl rfl))
        (pss_one (ps_expr (pe_bm PySem.F.plainAttrs_list PySem.F.slot_list_append PySem.F.type_list_append mt_append (pv 4) (pa_cons (pe_call (ok_nextK T) hr rfl T.g_next_ask T.U_next_ask.kp T.b_next_ask .nil pass0 (pa_cons (pv 0) (pa_cons (pv 4) (pa_cons (pv 3) pa_nil)))) pa_nil)))))
      (pss_one (ps_ret (pe_slice sl_list (pv 4) (po_some (pe_callB call_len_seq (by rfl) T.len PySem.boot_len (pa_cons (pv 1) pa_nil))) po_none)))), ?_⟩
    have er' : ∀ H2, Same H H2 → (SqL K H2 r (ns.map V.int) ∨ SqT K H2 r (ns.map V.int)) := fun H2 s2 => er.elim (fun h => .inl (sql_same s2 h)) (fun h => .inr (sqt_same s2 h))
    refine ⟨_, rfl, r, _, rfl, er, fun Ln hLn => gn ?_⟩
    have s1 := same_upd (o := HO.lst (ns.map V.int)) hLn
    have e1 : upd H Ln (.lst (ns.map V.int)) Ln = some (.lst ((ns ++ []).map V.int)) := by rw [upd_same, List.append_nil]
    generalize upd H Ln (.lst (ns.map V.int)) = H1 at *
    refine ⟨_, rfl, nn, rfl, by omega, by omega, for_range (lo := 0) (n := _) (fun i σ H2 => Same H H2 ∧ ∃ (ts : List Int) (v5 : Option V), H2 Ln = some (.lst ((ns ++ ts).map V.int)) ∧ σ = [some rv, some (.ref r), some (.int nn), some (.int st), some (.ref Ln), v5] ∧ ts.length = i ∧ SRow ps hs ns st ts) ⟨s1, [], none, e1, rfl, rfl, SRow.nil⟩ ?_ ?_⟩
    · rintro i σ H2 hi ⟨s2, ts, v5, e2, rfl, lts, srow⟩
      have hrl : (ns ++ ts).length ≤ 2000 := by rw [List.length_append]; omega
      refine gn ?_
      refine ⟨_, rfl, .inl ⟨rfl, _, SqL.of e2⟩, _, rfl, _, rfl, _, rfl, rv, Ln, st, ps, hs, ns ++ ts, rfl, rulV_same s2 hR, hl4, hp, ho, e2, by omega, fun t H3 nx s3 => ?_⟩
      refine ⟨Ln, _, _, rfl, rfl, s3 _ _ e2, by rw [List.length_map]; omega, ?_⟩
      refine ⟨same_into hLn (s2.trans s3), ts ++ [t], _, ?_, rfl, by rw [List.length_append, lts]; rfl, SRow.snoc srow nx⟩
      rw [upd_same]
      simp [List.map_append]
    · rintro σ H2 ⟨s2, ts, v5, e2, rfl, lts, srow⟩
      refine ⟨_, rfl, _, rfl, r, _, rfl, er' _ s2, _, rfl, ?_⟩
      dsimp only [tNoPart]
      refine ⟨Ln, _, rfl, SqL.of e2, fun z hz => ?_⟩
      have ecut : cutV ((ns ++ ts).map V.int) (some (((ns.map V.int).length : Nat) : Int)) none = ts.map V.int := by
        rw [cutV_from, List.map_append, List.drop_left]
      rw [ecut]
      exact k z ts _ (s2.trans (same_upd hz)) upd_same lts srow
theorem sc_lwatL : FnScope ["_law_pairs", "_law_clock", "_law_row", "_law_at", "_law_time", "_law_pair", "_law_other"] ["_law_pairs", "_law_clock", "_law_row"] (defScope s_l_wrong_at) := ⟨rfl, rfl, rfl, by decide +kernel, rfl, by decide +kernel, by decide +kernel⟩
theorem ok_lwatL (T : D K mg) : FnOk P w K mg base CX0 2 T.f_l_wrong_at T.d_l_wrong_at ["_law_pairs", "_law_clock", "_law_row"] spWrongL := by
  refine T.U_l_wrong_at.ok sc_lwatL (fun vs H Q E h => ?_) (fun cdv A outer s H vs Q E hr h => ?_)
  · obtain ⟨lv, hv, a, ps, hs, ns, rfl, _⟩ := h
    rfl
  · obtain ⟨lv, hv, a, ps, hs, ns, rfl, hL, hp, hH, h0, ea, hs', hn, k⟩ := h
    have nd := sc_lwatL.nd
    have mz : 5000 ≤ sizeLine := by decide
    refine ⟨_, pss_cons (ps_for PassesOwn.never rfl (pi_enum (by rfl) T.enumerate (pa_cons (pv 2) pa_nil)) (pg_tup rfl (pgs_cons (pg_name (i := 3) nd rfl (.inl rfl)) (pgs_cons (pg_name (i := 4) nd rfl (.inr rfl)) pgs_nil)))
        (pss_cons (ps_if (pt_not (pt_val (pe_call (ok_lopen T) hr rfl T.g_l_open T.U_l_open.kp T.b_l_open .nil pass0 (pa_cons (pv 1) (pa_cons (pv 4) pa_nil)))))
          (pss_one (ps_ret (pv 3)))
          (pss_nil))
        (pss_one (ps_for PassesOwn.never rfl (pi_tup (pv 0)) (pg_name (i := 5) nd rfl (.inr rfl))
          (pss_one (ps_if (pt_cmpR op_gt (pe_callB call_len_seq (by rfl) T.len PySem.boot_len (pa_cons (pe_lc (own := [("_law_other", 6)]) (g := gName 6) rfl nd (pi_list (pe_slice sl_list (pv 2) po_none (po_some (pe_op op_add (pv 3) pe_int)))) (blkOk_by (N := ["_law_pairs", "_law_clock", "_law_row", "_law_at", "_law_time", "_law_pair", "_law_other"]) (sc := defScope s_l_wrong_at) (by decide +kernel)) (fun _ _ _ _ _ => pg_name (i := 6) nd rfl (.inl rfl)) (fun _ _ _ _ _ => (pts_one (pt_cmpR op_gt (pv 6) (pe_op op_sub (pv 4) (pe_ix ix_tupB (pv 5) pe_int (fun _ _ => rfl))) (nomark _)))) (fun _ _ _ _ _ => pv 6)) pa_nil)) (pe_ix ix_tup (pv 5) pe_int (fun _ _ => rfl)) (nomark _))
            (pss_one (ps_ret (pv 3)))
            (pss_nil)))))))
      (pss_one (ps_ret pe_non)), ?_⟩
    obtain ⟨la, ls, rfl, el, ol⟩ := od_tup hL
    have lls : ls.length = ps.length := by rw [ol.len, List.length_map, List.length_map]
    refine ⟨_, rfl, a, _, rfl, SqL.of ea, for_it (walk_enum (K := K) (a := a) (xs := ns.map V.int)) (fun i σ H2 => Same H H2 ∧ (∀ j, j < i → politeAt ps hs ns j = true) ∧ ∃ (v3 v4 v5 v6 : Option V), σ = [some (.ref la), some hv, some (.ref a), v3, v4, v5, v6]) ⟨.refl _, fun _ h => absurd h (Nat.not_lt_zero _), none, none, none, none, rfl⟩ (fun i σ H2 _ q => SqL.of (q.1 _ _ ea)) ?_ ?_⟩
    · rintro i x σ H2 H3 hi ⟨s2, hpo, v3, v4, v5, v6, rfl⟩ ⟨Tt, x0, y, rfl, hTn, rfl, hx0, hy⟩
      cases hx0
      dsimp only at hy
      rw [List.length_map] at hi
      rw [List.getElem?_map, List.getElem?_eq_getElem hi] at hy
      cases hy
      have s3 := s2.trans (same_upd (o := HO.tup [V.int (i : Nat), V.int ns[i]]) hTn)
      refine ⟨_, _, rfl, SqT.of upd_same, rfl, _, _, rfl, _, _, rfl, rfl, ?_⟩
      dsimp only
      generalize upd H2 Tt (.tup [V.int (i : Nat), V.int ns[i]]) = H3 at *
      have eg : ns.getD i 0 = ns[i] := by rw [List.getD_eq_getElem?_getD, List.getElem?_eq_getElem hi]; rfl
      have ep : politeAt ps hs ns i = (openI hs ns[i] && ps.all (apI (ns.take i) ns[i])) := by unfold politeAt; rw [eg]
      refine ⟨_, rfl, _, rfl, hv, hs, ns[i], rfl, hH.same s3, h0, _, rfl, ?_⟩
      cases ho : openI hs ns[i] with
      | false =>
        have q := k H3 s3
        rw [first_at hi hpo (by rw [ep, ho]; rfl)] at q
        exact iteT ⟨_, rfl, q⟩
      | true =>
        refine iteF (next_of ?_)
        dsimp only
        refine ⟨_, rfl, la, rfl, ⟨_, SqT.of (s3 _ _ el)⟩, for_tup (K := K) (a := la) (xs := ls) (fun m σ H5 => Same H3 H5 ∧ (∀ mm (hm : mm < ps.length), mm < m → apI (ns.take i) ns[i] ps[mm] = true) ∧ ∃ (v5 v6 : Option V), σ = [some (.ref la), some hv, some (.ref a), some (.int (i : Nat)), some (.int ns[i]), v5, v6]) ⟨.refl _, fun _ _ h => absurd h (Nat.not_lt_zero _), _, _, rfl⟩ (fun m σ H5 _ q => SqT.of (q.1 _ _ (s3 _ _ el))) ?_ ?_⟩
        · rintro m x σ H5 hx ⟨s5, hm, v5, v6, rfl⟩
          obtain ⟨p, b, hpm, rfl, eb⟩ := pair_at ol hx
          obtain ⟨hmp, hpe⟩ := List.getElem?_eq_some_iff.mp hpm
          have hpp := hp p (List.mem_of_getElem? hpm)
          have s05 := s3.trans s5
          refine ifop ?_
          refine ⟨_, rfl, _, rfl, _, _, rfl, rfl, _, rfl, a, _, rfl, SqL.of (s05 _ _ ea), fun c hc => ?_⟩
          have ecut : cutV (ns.map V.int) none (some ((i : Int) + 1)) = (ns.take (i + 1)).map V.int := by
            rw [show (i : Int) + 1 = ((i + 1 : Nat) : Int) by omega, cutV_to, List.map_take]
          rw [ecut]
          have s6 := same_upd (o := HO.lst ((ns.take (i + 1)).map V.int)) hc
          have oc : upd H5 c (.lst ((ns.take (i + 1)).map V.int)) c = some (.lst ((ns.take (i + 1)).map V.int)) := upd_same
          generalize upd H5 c (.lst ((ns.take (i + 1)).map V.int)) = H6 at *
          have s06 := s05.trans s6
          refine ⟨c, rfl, ⟨_, SqL.of oc⟩, fun D hD => lc_list (K := K) (a := c) (xs := (ns.take (i + 1)).map V.int) (fun j Hx => Same H6 Hx ∧ Hx D = some (.lst ((((ns.take (i + 1)).take j).filter (fun x => decide (ns[i] - p.2 < x))).map V.int))) ⟨same_upd hD, upd_same⟩ (fun j Hx _ q => SqL.of (q.1 _ _ oc)) ?_ ?_⟩
          · rintro j x Hx hx ⟨sx, ex⟩
            rw [List.getElem?_map] at hx
            obtain ⟨n, hn', rfl⟩ := Option.map_eq_some_iff.mp hx
            refine ⟨rfl, ?_⟩
            have et : (ns.take (i + 1)).take (j + 1) = (ns.take (i + 1)).take j ++ [n] := by rw [List.take_add_one, hn']; rfl
            refine ⟨_, rfl, _, rfl, _, rfl, b, _, _, _, rfl, rfl, SqT.of (sx _ _ (s06 _ _ eb)), rfl, _, _, rfl, rfl, _, _, rfl, rfl, _, rfl, ite2 (fun h => ?_) (fun h => ?_)⟩
            · refine ⟨_, rfl, _, ex, ?_, same_into hD sx, ?_⟩
              · rw [List.length_map]
                have := List.length_filter_le (fun x => decide (ns[i] - p.2 < x)) ((ns.take (i + 1)).take j)
                rw [List.length_take, List.length_take] at this
                omega
              · rw [upd_same, et, List.filter_append, List.map_append, List.filter_cons_of_pos (by exact h)]
                rfl
            · refine ⟨sx, ?_⟩
              rw [ex, et, List.filter_append, List.filter_cons_of_neg (by exact h), List.filter_nil, List.append_nil]
          · rintro Hx ⟨sx, ex⟩
            rw [List.length_map, List.take_length] at ex
            have s0x := s06.trans sx
            have ec : (((((ns.take (i + 1)).filter (fun x => decide (ns[i] - p.2 < x))).map V.int).length : Nat) : Int) = ((above (ns[i] - p.2) (ns.take i) + 1 : Nat) : Int) := by
              rw [List.length_map, ← above_len, above_take hi hpp.2.1]
            have eap := ap_count (srt_take hs' i) (t := ns[i]) (q := p) hpp.1
            refine ⟨D, _, rfl, .inl (SqL.of ex), _, rfl, b, _, _, _, rfl, rfl, SqT.of (s0x _ _ eb), rfl, _, _, rfl, rfl, _, rfl, ite2 (fun h => ?_) (fun h => ?_)⟩
            · have h := of_decide_eq_true h
              have hbad : apI (ns.take i) ns[i] p = false := by
                rw [eap]
                exact decide_eq_false (by omega)
              have q := k Hx s0x
              rw [first_at hi hpo (by
                rw [ep, ho, Bool.true_and, Bool.eq_false_iff]
                intro z
                have := List.all_eq_true.mp z p (List.mem_of_getElem? hpm)
                rw [hbad] at this
                cases this)] at q
              exact ⟨_, rfl, q⟩
            · have h : ¬ p.1 < ((above (ns[i] - p.2) (ns.take i) + 1 : Nat) : Int) := fun q => h (decide_eq_true (by rw [ec]; exact q))
              refine ⟨s5.trans (s6.trans sx), fun mm hmm hml => ?_, _, _, rfl⟩
              by_cases zz : mm = m
              · subst zz
                rw [hpe, eap]
                exact decide_eq_true (by omega)
              · exact hm mm hmm (by omega)
        · rintro σ H5 ⟨s5, hm, v5, v6, rfl⟩
          refine ⟨s3.trans s5, fun j hj => ?_, _, _, _, _, rfl⟩
          by_cases zz : j = i
          · subst zz
            rw [ep, ho, Bool.true_and]
            refine List.all_eq_true.mpr fun q hq => ?_
            obtain ⟨mm, hmm, rfl⟩ := List.getElem_of_mem hq
            exact hm mm hmm (by rw [lls]; exact hmm)
          · exact hpo j (by omega)
    · rintro σ H2 ⟨s2, hpo, v3, v4, v5, v6, rfl⟩
      rw [List.length_map] at hpo
      have q := k H2 s2
      rw [first_none hpo] at q
      exact q
end
end KP
set_option Elab.async false
set_option maxRecDepth 100000
set_option maxHeartbeats 4000000
set_option linter.all false
/-! Ours: crawlers that keep their own limits, come late, and keep the shared ones or break them: the mathematics. -/
namespace KP
open PySem PySem.Spec PyProof.Rows L2 Gr GxR
def kk (us : List Int) (x : Int) : Nat := us.length - above (x - 1) us
theorem idx_lt {us : List Int} (hs : Srt us) {x : Int} {i : Nat} (h : i < us.length) : us[i] < x ↔ i < kk us x := by
  have a := above_iff hs (c := x - 1) (k := us.length - i) (by omega) (by omega)
  have e : us.length - (us.length - i) = i := by omega
  simp only [e] at a
  have b := above_le (x - 1) us
  unfold kk
  constructor
  · intro z
    by_cases y : us.length - i ≤ above (x - 1) us
    · have := a.mp y; omega
    · omega
  · intro z
    by_cases y : x - 1 < us[i]
    · have := a.mpr y; omega
    · omega
def Gr' (us : List Int) (x : Int) : List Int := us.take (kk us x)
theorem gr_row {ps : List (Int × Int)} {hs us : List Int} {st e : Int} (r : RowP ps hs st e us) (x : Int) : RowP ps hs st x (Gr' us x) := by
  have t := r.take (kk us x)
  refine ⟨t.srt, t.lo, fun y hy => ?_, t.opn, t.pol⟩
  obtain ⟨i, hi, rfl⟩ := List.getElem_of_mem hy
  unfold Gr' at hi ⊢
  rw [List.length_take] at hi
  rw [List.getElem_take]
  exact (idx_lt r.srt (by omega)).mpr (by omega)
theorem open_always (t : Int) : openI [1] t = true := by
  unfold openI
  have e : (t % (([1] : List Int).length : Nat)).toNat = 0 := by
    show (t % (1 : Int)).toNat = 0
    omega
  rw [e]
  rfl
theorem nxt_shift {ps : List (Int × Int)} {rs : List Int} {st t c : Int} (n : IsNxt ps [1] rs st t) : IsNxt ps [1] (rs.map (· + c)) (st + c) (t + c) := by
  have pst : ∀ {u : Int}, Past (rs.map (· + c)) (st + c) (u + c) ↔ Past rs st u := by
    intro u
    constructor
    · rintro ⟨a, b⟩
      exact ⟨by omega, fun x hx => by have := b (x + c) (by rw [atI_shift, hx]; rfl); omega⟩
    · rintro ⟨a, b⟩
      refine ⟨by omega, fun x hx => ?_⟩
      rw [atI_shift] at hx
      obtain ⟨y, hy, rfl⟩ := Option.map_eq_some_iff.mp hx
      have := b y hy
      omega
  refine ⟨pst.mpr n.past, open_always _, List.all_eq_true.mpr fun p hp => by rw [ap_shift]; exact List.all_eq_true.mp n.all p hp, fun u pu _ au => ?_⟩
  have e : u = (u - c) + c := by omega
  rw [e] at pu au ⊢
  have := n.least (u - c) (pst.mp pu) (open_always _) (List.all_eq_true.mpr fun p hp => by
    have := List.all_eq_true.mp au p hp
    rw [ap_shift] at this
    exact this)
  omega
theorem mst_shift {ps : List (Int × Int)} {st e : Int} {n : Nat} (c : Int) (hp : ∀ p ∈ ps, 1 ≤ p.1) (m : Mst ps [1] st e n) : Mst ps [1] (st + c) (e + c) n := by
  obtain ⟨ts, k1, k2, k3, k4⟩ := m
  refine ⟨ts.map (· + c), fun i hi => ?_, by rw [List.length_map, k2], fun t ht => ?_, fun t ht => ?_⟩
  · rw [List.length_map] at hi
    have := nxt_shift (c := c) (k1 i hi)
    rw [List.nil_append] at this
    rw [List.nil_append, ← List.map_take, List.getElem_map]
    exact this
  · obtain ⟨y, hy, rfl⟩ := List.mem_map.mp ht
    have := k3 y hy
    omega
  · obtain ⟨u, hu⟩ := nxt_some (ps := ps) (hs := [1]) (rs := ts) (st := st) hp ⟨0, Nat.zero_lt_one, rfl⟩
    have := k4 u hu
    have := (nxt_shift (c := c) hu).one ht
    omega
theorem RowP.drop {ps : List (Int × Int)} {hs : List Int} {st e s2 : Int} {rs : List Int} (hp : ∀ p ∈ ps, 1 ≤ p.1) (r : RowP ps hs st e rs) (a : Nat) (h : ∀ x ∈ rs.drop a, s2 ≤ x) : RowP ps hs s2 e (rs.drop a) := by
  have sd : Srt (rs.drop a) := fun i j hi hj hij => by
    rw [List.length_drop] at hi hj
    rw [List.getElem_drop, List.getElem_drop]
    exact r.srt _ _ (by omega) (by omega) (by omega)
  refine ⟨sd, h, fun x hx => r.hi x (List.mem_of_mem_drop hx), fun x hx => r.opn x (List.mem_of_mem_drop hx), fun i hi => List.all_eq_true.mpr fun p hp' => ?_⟩
  rw [List.length_drop] at hi
  rw [List.getElem_drop]
  have b := List.all_eq_true.mp (r.pol (a + i) (by omega)) p hp'
  rw [ap_count (srt_take r.srt _) (hp p hp')] at b
  rw [ap_count (srt_take sd _) (hp p hp')]
  have b := of_decide_eq_true b
  rw [List.take_add, above_app] at b
  exact decide_eq_true (by omega)
theorem polite_row {ps : List (Int × Int)} {hs ns : List Int} (h : Polite ps hs ns) (hs' : Srt ns) {lo hi : Int} (h1 : ∀ x ∈ ns, lo ≤ x) (h2 : ∀ x ∈ ns, x < hi) : RowP ps hs lo hi ns := by
  have a : ∀ (i : Nat) (hi : i < ns.length), openI hs ns[i] = true ∧ ps.all (apI (ns.take i) ns[i]) = true := fun i hi => by
    have b := h i hi
    unfold politeAt at b
    rw [List.getD_eq_getElem?_getD, List.getElem?_eq_getElem hi, Bool.and_eq_true] at b
    exact b
  exact ⟨hs', h1, h2, fun x hx => by
    obtain ⟨i, hi, rfl⟩ := List.getElem_of_mem hx
    exact (a i hi).1, fun i hi => (a i hi).2⟩
theorem between_count (ns : List Int) {st e : Int} (h : st ≤ e) : (ns.filter fun x => decide (st ≤ x) && decide (x < e)).length + above (e - 1) ns = above (st - 1) ns := by
  unfold above
  induction ns with
  | nil => rfl
  | cons a l ih =>
    rw [List.countP_cons, List.countP_cons, List.filter_cons]
    by_cases z1 : st ≤ a
    · by_cases z2 : a < e
      · rw [if_pos (by rw [decide_eq_true z1, decide_eq_true z2]; rfl), if_neg (by simp only [decide_eq_true_eq]; omega), if_pos (decide_eq_true (by omega)), List.length_cons]
        omega
      · rw [if_neg (by rw [decide_eq_true z1, decide_eq_false z2]; exact Bool.false_ne_true), if_pos (decide_eq_true (by omega)), if_pos (decide_eq_true (by omega))]
        omega
    · rw [if_neg (by rw [decide_eq_false z1]; exact Bool.false_ne_true), if_neg (by simp only [decide_eq_true_eq]; omega), if_neg (by simp only [decide_eq_true_eq]; omega)]
      omega
theorem among_le {ps : List (Int × Int)} {hs ns : List Int} {st e : Int} {n : Nat} (hp : ∀ p ∈ ps, 1 ≤ p.1) (ho : ∃ j : Nat, ∃ h : j < hs.length, hs[j] = 1) (h : Polite ps hs ns) (hs' : Srt ns) (he : st ≤ e) (m : Mst ps hs st e n) : (ns.filter fun x => decide (st ≤ x) && decide (x < e)).length ≤ n := by
  have b : ∃ lo hi : Int, (∀ x ∈ ns, lo ≤ x) ∧ ∀ x ∈ ns, x < hi := by
    clear h hs' m
    induction ns with
    | nil => exact ⟨0, 0, (fun _ h => nomatch h), fun _ h => nomatch h⟩
    | cons a l ih =>
      obtain ⟨lo, hi, h1, h2⟩ := ih
      exact ⟨min lo a, max hi (a + 1), fun x hx => by
        rcases List.mem_cons.mp hx with z | z
        · omega
        · have := h1 x z; omega, fun x hx => by
        rcases List.mem_cons.mp hx with z | z
        · omega
        · have := h2 x z; omega⟩
  obtain ⟨lo, hi, b1, b2⟩ := b
  have r := polite_row h hs' b1 b2
  have re := gr_row r e
  have hd : ∀ x ∈ (Gr' ns e).drop (kk ns st), st ≤ x := fun x hx => by
    obtain ⟨i, hi', rfl⟩ := List.getElem_of_mem hx
    unfold Gr' at hi' ⊢
    rw [List.length_drop, List.length_take] at hi'
    rw [List.getElem_drop, List.getElem_take]
    have := idx_lt hs' (x := st) (i := kk ns st + i) (by omega)
    by_cases z : ns[kk ns st + i]'(by omega) < st
    · have := this.mp z; omega
    · omega
  have rd := re.drop hp (kk ns st) hd
  have l1 := row_most hp ho m rd
  have c := between_count ns he
  have k1 := above_le (st - 1) ns
  have k2 := above_le (e - 1) ns
  rw [List.length_drop] at l1
  unfold Gr' kk at l1
  rw [List.length_take] at l1
  omega
/-- a row of a crawler: asked, and come -/
structure RowOk (c : List (Int × Int) × Int) (qs : List (Int × Int)) : Prop where
  len : qs.length ≤ 60
  asked : asc 0 (qs.map (·.1))
  come : asc 0 (qs.map (·.2))
  late : ∀ q ∈ qs, q.1 ≤ q.2 ∧ q.2 ≤ q.1 + c.2
  pol : Polite c.1 [1] (qs.map (·.1))
  big : ∀ q ∈ qs, q.2 ≤ 10000
theorem win_late {c : List (Int × Int) × Int} {qs : List (Int × Int)} (h : ∀ q ∈ qs, q.1 ≤ q.2 ∧ q.2 ≤ q.1 + c.2) (x W : Int) : winN x W (qs.map (·.2)) ≤ winN x (W + c.2) (qs.map (·.1)) := by
  unfold winN
  rw [List.countP_map, List.countP_map]
  refine List.countP_mono_left fun q hq hy => ?_
  have := h q hq
  simp only [Function.comp, Bool.and_eq_true, decide_eq_true_eq] at hy ⊢
  omega
theorem win_mw {ps : List (Int × Int)} (h0 : ps ≠ []) (g : Lm ps) {ns : List Int} (sr : Srt ns) (hp : Polite ps [1] ns) (x : Int) {W : Int} (w0 : 0 ≤ W) : winN x W ns ≤ mw ps W := by
  obtain ⟨hm, _⟩ := mw_spec h0 g w0
  have hp1 : ∀ p ∈ ps, 1 ≤ p.1 := fun p hp => (g.2 p hp).1
  have m2 := mst_shift (x - W + 1) hp1 hm
  have a := among_le (hs := [1]) hp1 ⟨0, Nat.zero_lt_one, rfl⟩ hp sr (by omega) m2
  have e : winN x W ns = (ns.filter fun y => decide (0 + (x - W + 1) ≤ y) && decide (y < W + (x - W + 1))).length := by
    unfold winN
    rw [List.countP_eq_length_filter]
    congr 1
    refine List.filter_congr fun y _ => ?_
    rw [Bool.eq_iff_iff]
    simp only [Bool.and_eq_true, decide_eq_true_eq]
    omega
  rw [e]
  exact a
theorem win_row {c : List (Int × Int) × Int} (hc : PartOk c) (h0 : c.1 ≠ []) {qs : List (Int × Int)} (r : RowOk c qs) (x : Int) {W : Int} (w0 : 0 ≤ W) : winN x W (qs.map (·.2)) ≤ mw c.1 (W + c.2) :=
  Nat.le_trans (win_late r.late x W) (win_mw h0 hc.1 (asc_srt r.asked) r.pol x (by have := hc.2.1; omega))
theorem flat_win {rows : List (List (Int × Int))} {ms : List Int} (hm : ms.Perm (rows.flatMap fun qs => qs.map (·.2))) (x W : Int) : winN x W ms = (rows.map fun qs => winN x W (qs.map (·.2))).sum := by
  unfold winN
  rw [hm.countP_eq, List.countP_flatMap]
  rfl
theorem sum_zip {α β : Type} (f : α → Nat) (g : β → Nat) : ∀ {as : List α} {bs : List β}, as.length = bs.length → (∀ (i : Nat) (h : i < as.length) (h2 : i < bs.length), f as[i] ≤ g bs[i]) → (as.map f).sum ≤ (bs.map g).sum
  | [], [], _, _ => Nat.le_refl _
  | a :: as, b :: bs, hl, h => by
    have h1 := h 0 (Nat.zero_lt_succ _) (Nat.zero_lt_succ _)
    have h1 : f a ≤ g b := h1
    have h2 := sum_zip f g (as := as) (bs := bs) (Nat.succ.inj hl) fun i hi hj => h (i + 1) (Nat.succ_lt_succ hi) (Nat.succ_lt_succ hj)
    rw [List.map_cons, List.map_cons, List.sum_cons, List.sum_cons]
    omega
theorem cast_sumL {α : Type} (f : α → Nat) : ∀ l : List α, (((l.map f).sum : Nat) : Int) = (l.map fun a => ((f a : Nat) : Int)).sum
  | [] => rfl
  | a :: l => by
    rw [List.map_cons, List.map_cons, List.sum_cons, List.sum_cons, Int.natCast_add, cast_sumL f l]
theorem pairB_true {cs : List (List (Int × Int) × Int)} {q : Int × Int} (h : pairB cs q = true) : (∀ c ∈ cs, c.1 ≠ []) ∧ (((cs.map fun c => mw c.1 (q.2 + c.2)).sum : Nat) : Int) ≤ q.1 := by
  unfold pairB at h
  rw [Bool.and_eq_true, Bool.not_eq_true', decide_eq_true_eq] at h
  refine ⟨fun c hc z => ?_, by rw [cast_sumL]; exact h.2⟩
  have := List.any_eq_false.mp h.1 c hc
  rw [z] at this
  exact this rfl
theorem pairB_false {cs : List (List (Int × Int) × Int)} {q : Int × Int} (h : pairB cs q = false) : (∃ c ∈ cs, c.1 = []) ∨ q.1 < (((cs.map fun c => mw c.1 (q.2 + c.2)).sum : Nat) : Int) := by
  unfold pairB at h
  rw [Bool.and_eq_false_iff] at h
  rcases h with h | h
  · have h : (cs.any fun c => c.1.isEmpty) = true := by rw [← Bool.not_eq_false', h]
    obtain ⟨c, hc, z⟩ := List.any_eq_true.mp h
    exact .inl ⟨c, hc, List.isEmpty_iff.mp z⟩
  · refine .inr ?_
    rw [cast_sumL]
    have := of_decide_eq_false h
    omega
/-- rows of crawlers that keep the shared limits come politely -/
theorem rows_polite {cs : List (List (Int × Int) × Int)} {ps : List (Int × Int)} (hc : ∀ c ∈ cs, PartOk c) (hg : Lm ps) (hk : keepB cs ps = true) {rows : List (List (Int × Int))} (hl : rows.length = cs.length) (hr : ∀ (i : Nat) (h : i < rows.length) (h2 : i < cs.length), RowOk cs[i] rows[i]) {ms : List Int} (hm : ms.Perm (rows.flatMap fun qs => qs.map (·.2))) (hs : ms.Pairwise (· ≤ ·)) : Polite ps [1] ms := by
  refine polite_win (fun p hp => ⟨(hg.2 p hp).1, (hg.2 p hp).2.2.1⟩) (srt_of_pairwise hs) fun p hp x => ?_
  obtain ⟨h0, hsum⟩ := pairB_true (List.all_eq_true.mp hk p hp)
  have a := sum_zip (fun qs : List (Int × Int) => winN x p.2 (qs.map (·.2))) (fun c : List (Int × Int) × Int => mw c.1 (p.2 + c.2)) (as := rows) (bs := cs) hl fun i h1 h2 => win_row (hc _ (List.getElem_mem h2)) (h0 _ (List.getElem_mem h2)) (hr i h1 h2) x (by have := hg.2 p hp; omega)
  rw [flat_win hm]
  omega
/-- a row that is as close as it can be -/
def crowdP (ts : List Int) (M W : Int) : List (Int × Int) := (ts.filter fun t => decide (t < M + W)).map fun t => (t, max t M)
theorem crowd_asked (ts : List Int) (M W : Int) : (crowdP ts M W).map (·.1) = ts.filter fun t => decide (t < M + W) := by
  unfold crowdP
  rw [List.map_map]
  exact List.map_id'' (fun _ => rfl) _
theorem empty_same {ts : List Int} {st : Int} (sr : SRow [] [1] [] st ts) : ∀ t ∈ ts, t = st := fun t ht => by
  have key : ∀ j, j ≤ ts.length → ∀ t ∈ ts.take j, t = st := fun j => by
    induction j with
    | zero => intro _ t ht; rw [List.take_zero] at ht; cases ht
    | succ j ih =>
      intro hj t ht
      rw [List.take_add_one, List.getElem?_eq_getElem (by omega)] at ht
      rcases List.mem_append.mp ht with h | h
      · exact ih (by omega) t h
      · have h : t ∈ [ts[j]] := h
        rw [List.mem_singleton.mp h]
        have nx := sr j (by omega)
        rw [List.nil_append] at nx
        have a := nx.past.1
        have b := nx.least st ⟨Int.le_refl _, fun x hx => by
          obtain ⟨j', _, e⟩ := Option.bind_eq_some_iff.mp hx
          rw [ih (by omega) x (List.mem_of_getElem? e)]
          exact Int.le_refl _⟩ (open_one _) rfl
        omega
  exact key ts.length (Nat.le_refl _) t (by rw [List.take_of_length_le (Nat.le_refl _)]; exact ht)
theorem crowd_len {c : List (Int × Int) × Int} (hc : PartOk c) {ts : List Int} {M W : Int} {N : Nat} (w1 : 1 ≤ W) (hM : c.2 ≤ M) (sr : SRow c.1 [1] [] (M - c.2) ts) (hl : ts.length = N) : (crowdP ts M W).length = N ∨ (c.1 ≠ [] ∧ mw c.1 (W + c.2) ≤ (crowdP ts M W).length) := by
  have hp1 : ∀ p ∈ c.1, 1 ≤ p.1 := fun p hp => (hc.1.2 p hp).1
  by_cases z : c.1 = []
  · rw [z] at sr
    refine .inl ?_
    unfold crowdP
    rw [List.length_map, List.filter_eq_self.mpr fun t ht => decide_eq_true (by have := empty_same sr t ht; have := hc.2.1; omega), hl]
  · obtain ⟨hm, _⟩ := mw_spec z hc.1 (n := W + c.2) (by have := hc.2.1; omega)
    have m2 := mst_shift (M - c.2) hp1 hm
    rw [show 0 + (M - c.2) = M - c.2 by omega, show W + c.2 + (M - c.2) = M + W by omega] at m2
    by_cases y : mw c.1 (W + c.2) ≤ ts.length
    · refine .inr ⟨z, ?_⟩
      unfold crowdP
      rw [List.length_map, below_count sr m2 y]
      exact Nat.le_refl _
    · refine .inl ?_
      unfold crowdP
      rw [List.length_map, List.filter_eq_self.mpr fun t ht => ?_, hl]
      obtain ⟨us, k1, k2, k3, k4⟩ := m2
      have e := srow_prefix sr k1 (by omega)
      rw [← e] at ht
      exact decide_eq_true (k3 t (List.mem_of_mem_take ht))
end KP
set_option Elab.async false
set_option maxRecDepth 100000
set_option maxHeartbeats 4000000
set_option linter.all false
/-! Ours: rows as close as can be; breaking. -/
namespace KP
open PySem PySem.Spec PyProof.Rows L2 Gr GxR
def spCrowd : Sp := fun vs H Q _ => ∃ (pv : V) (c : List (Int × Int) × Int) (M W n : Int), vs = [pv, .int M, .int W, .int n] ∧ Od H pv (partP c) ∧ PartOk c ∧ c.2 ≤ M ∧ M ≤ 24 ∧ 1 ≤ W ∧ W ≤ 12 ∧ 0 ≤ n ∧ n ≤ 100 ∧ ∀ z ts H', Same H H' → SRow c.1 [1] [] (M - c.2) ts → ts.length = n.toNat → Od H' z (limP (crowdP ts M W)) → Q z H'
/-- rows that break a pair -/
structure Breaks (cs : List (List (Int × Int) × Int)) (q : Int × Int) (M : Int) (rows : List (List (Int × Int))) : Prop where
  len : rows.length = cs.length
  rows : ∀ (i : Nat) (h : i < rows.length) (h2 : i < cs.length), ∃ ts, SRow cs[i].1 [1] [] (M - cs[i].2) ts ∧ ts.length = (q.1 + 1).toNat ∧ rows[i] = crowdP ts M q.2
def spBreak (L : List Addr) : Sp := fun vs H Q _ => ∃ (pv sv : V) (cs : List (List (Int × Int) × Int)) (ps : List (Int × Int)), vs = [pv, sv] ∧ Od H pv (.tuple (cs.map partP)) ∧ 1 ≤ cs.length ∧ cs.length ≤ 6 ∧ (∀ c ∈ cs, PartOk c) ∧ Od H sv (limP ps) ∧ Lm ps ∧ Tb L H ∧
  (keepB cs ps = true → ∀ H', UpL L H H' → Q .non H') ∧
  (keepB cs ps = false → ∀ z H' q M rows, q ∈ ps → pairB cs q = false → (∀ c ∈ cs, c.2 ≤ M) → 0 ≤ M → M ≤ 24 → Breaks cs q M rows → Od H' z (.tuple (rows.map limP)) → UpL L H H' → Q z H')
section
variable {P : Program} {w : World} {K : PySem.W.Frag} {mg : Str → Option Value} {base : Heap}
theorem sc_crowd : FnScope ["part", "meeting", "wide", "many", "limits", "late", "asks", "asked"] ["part", "meeting", "wide", "many"] (defScope s_crowded_row) := ⟨rfl, rfl, rfl, by decide +kernel, rfl, by decide +kernel, by decide +kernel⟩
theorem ok_crowd (T : D K mg) : FnOk P w K mg base CX0 5 T.f_crowded_row T.d_crowded_row ["part", "meeting", "wide", "many"] spCrowd := by
  refine T.U_crowded_row.ok sc_crowd (fun vs H Q E h => ?_) (fun cdv A outer s H vs Q E hr h => ?_)
  · obtain ⟨pv, c, M, W, n, rfl, _⟩ := h
    rfl
  · obtain ⟨pv', c, M, W, n, rfl, hP, hc, cM, M24, w1, w12, n0, n1, k⟩ := h
    have nd := sc_crowd.nd
    have mz : 5000 ≤ sizeLine := by decide
    refine ⟨_, pss_cons (ps_asg (pv 0) (pg_tup rfl (pgs_cons (pg_name (i := 4) nd rfl (.inl rfl)) (pgs_cons (pg_name (i := 5) nd rfl (.inl rfl)) pgs_nil))))
      (pss_cons (ps_set (i := 6) nd rfl (.inl rfl) (pe_call (ok_soonK T) hr rfl T.g_soonest_asks T.U_soonest_asks.kp T.b_soonest_asks .nil pass0 (pa_cons (pe_tup (pa_cons (pv 4) (pa_cons (pe_glob (v := .ref T.a_ALWAYS) rfl T.g_ALWAYS rfl) pa_nil))) (pa_cons (pe_tup pa_nil) (pa_cons (pv 3) (pa_cons (pe_op op_sub (pv 1) (pv 5)) pa_nil))))))
      (pss_one (ps_ret (pe_callTy call_tuple_of (by rfl) T.tuple (by decide +kernel) (pa_cons (pe_lc (own := [("asked", 7)]) (g := gName 7) rfl nd (pi_list (pv 6)) (blkOk_by (N := ["part", "meeting", "wide", "many", "limits", "late", "asks", "asked"]) (sc := defScope s_crowded_row) (by decide +kernel)) (fun _ _ _ _ _ => pg_name (i := 7) nd rfl (.inl rfl)) (fun _ _ _ _ _ => (pts_one (pt_cmpR op_lt (pv 7) (pe_op op_add (pv 1) (pv 2)) (nomark _)))) (fun _ _ _ _ _ => pe_tup (pa_cons (pv 7) (pa_cons (pe_callB (call_max2 rfl) (by rfl) T.max boot_max (pa_cons (pv 7) (pa_cons (pv 1) pa_nil))) pa_nil)))) pa_nil))))), ?_⟩
    obtain ⟨pa, pxs, rfl, ep, op⟩ := od_tup hP
    match pxs, op with
    | [lv, dv], .cons o1 (.cons o2 .nil) =>
    cases o2
    refine ⟨_, rfl, pa, _, rfl, SqT.of ep, rfl, _, _, rfl, _, _, rfl, rfl, ?_⟩
    dsimp only
    refine ⟨_, rfl, by show 2 ≤ sizeLine; omega, fun c1 hc1 => ⟨by show 0 ≤ sizeLine; omega, fun c2 hc2 => ⟨_, rfl, _, rfl, _, rfl, _, _, rfl, rfl, ?_⟩⟩⟩
    have sa := same_upd (o := HO.tup [lv, V.ref T.a_ALWAYS]) hc1
    have sb := same_upd (o := HO.tup []) hc2
    have sab := sa.trans sb
    have e1 := sb _ _ (show upd H c1 (.tup [lv, V.ref T.a_ALWAYS]) c1 = some (.tup [lv, V.ref T.a_ALWAYS]) from upd_same)
    have e2 : upd (upd H c1 (.tup [lv, V.ref T.a_ALWAYS])) c2 (.tup []) c2 = some (.tup []) := upd_same
    generalize upd (upd H c1 (.tup [lv, V.ref T.a_ALWAYS])) c2 (.tup []) = H1 at *
    refine ⟨.ref c1, c2, n, M - c.2, c.1, [1], [], rfl, ⟨c1, lv, _, rfl, e1, o1.same sab, hrs_always T _⟩, hc.1.1, fun p hp => (hc.1.2 p hp).1, ⟨0, Nat.zero_lt_one, rfl⟩, .inr (SqT.of e2), Nat.zero_le _, n0, by omega, fun z ts H2 s2 ez lt sr => gn ?_⟩
    dsimp only
    have s02 := sab.trans s2
    refine ⟨_, rfl, z, rfl, ⟨_, SqL.of ez⟩, fun Dn hDn => lc_list (K := K) (a := z) (xs := ts.map V.int) (fun j Hx => Same H2 Hx ∧ (∃ us, Hx Dn = some (.lst us) ∧ us.length ≤ j) ∧ LstT Hx Dn (((crowdP (ts.take j) M W).map inD).map tw)) ⟨same_upd hDn, ⟨[], upd_same, Nat.le_refl _⟩, LstT.at upd_same⟩ (fun j Hx _ q => SqL.of (q.1 _ _ ez)) ?_ ?_⟩
    · rintro j x Hx hx ⟨sx, ⟨us, eu, lu⟩, lt'⟩
      rw [List.getElem?_map] at hx
      obtain ⟨t, hn', rfl⟩ := Option.map_eq_some_iff.mp hx
      have hj := (List.getElem?_eq_some_iff.mp hn').1
      have et : ts.take (j + 1) = ts.take j ++ [t] := by rw [List.take_add_one, hn']; rfl
      refine ⟨rfl, ?_⟩
      refine ⟨_, rfl, _, rfl, _, rfl, _, _, rfl, rfl, _, _, rfl, rfl, _, rfl, ite2 (fun h => ?_) (fun h => ?_)⟩
      · refine ⟨_, rfl, _, rfl, _, rfl, _, _, rfl, by show 2 ≤ sizeLine; omega, fun u hu => ?_⟩
        have em : (if M > t then M else t) = max t M := by
          by_cases z : M > t
          · rw [if_pos z, Int.max_eq_right (by omega)]
          · rw [if_neg z, Int.max_eq_left (by omega)]
        rw [em]
        have st := same_upd (o := HO.tup [V.int t, V.int (max t M)]) hu
        have e3 : upd Hx u (.tup [V.int t, V.int (max t M)]) u = some (.tup [V.int t, V.int (max t M)]) := upd_same
        replace lt' := lt'.same st
        replace eu := st _ _ eu
        replace sx := sx.trans st
        generalize upd Hx u (.tup [V.int t, V.int (max t M)]) = H6 at *
        refine ⟨us, eu, by omega, same_into hDn sx, ⟨_, upd_same, by rw [List.length_append]; show _ + 1 ≤ _; omega⟩, ?_⟩
        have e4 : ((crowdP (ts.take (j + 1)) M W).map inD).map tw = ((crowdP (ts.take j) M W).map inD).map tw ++ [tw (inD (t, max t M))] := by
          unfold crowdP
          rw [et, List.filter_append, List.filter_cons_of_pos (by exact h), List.filter_nil, List.map_append, List.map_append, List.map_append]
          rfl
        rw [e4]
        exact lt'.put eu (.tup e3 (.cons (.int _) (.cons (.int _) .nil))) (tup_pair _)
      · refine ⟨sx, ⟨us, eu, by omega⟩, ?_⟩
        have e4 : crowdP (ts.take (j + 1)) M W = crowdP (ts.take j) M W := by
          unfold crowdP
          rw [et, List.filter_append, List.filter_cons_of_neg (by exact h), List.filter_nil, List.append_nil]
        rw [e4]
        exact lt'
    · rintro Hx ⟨sx, ⟨us, eu, lu⟩, lt'⟩
      rw [List.length_map, List.take_of_length_le (Nat.le_refl _)] at lt'
      refine ⟨Dn, us, rfl, .inl ⟨SqL.of eu, fun R hR => ?_⟩⟩
      exact k (.ref R) ts _ ((s02.trans sx).trans (same_upd hR)) sr lt (lt'.tup eu hR)
theorem sc_break : FnScope ["parts", "shared", "broken", "most", "wide", "meeting", "_", "late", "part"] ["parts", "shared"] (defScope s_breaking) := ⟨rfl, rfl, rfl, by decide +kernel, rfl, by decide +kernel, by decide +kernel⟩
theorem ok_break (T : D K mg) (TB : Tabs base T) : FnOk P w K mg base CX0 8 T.f_breaking T.d_breaking ["parts", "shared"] (spBreak (tabs T)) := by
  refine T.U_breaking.ok sc_break (fun vs H Q E h => ?_) (fun cdv A outer s H vs Q E hr h => ?_)
  · obtain ⟨pv, sv, cs, ps, rfl, _⟩ := h
    rfl
  · obtain ⟨pv', sv, cs, ps, rfl, hP, l1, l6, hc, hS, hg, hT, k1, k2⟩ := h
    have nd := sc_break.nd
    have mz : 5000 ≤ sizeLine := by decide
    refine ⟨_, pss_cons (ps_expr (pe_call (ok_parts T TB) hr rfl T.g_check_parts T.U_check_parts.kp T.b_check_parts .nil pass0 (pa_cons (pv 0) pa_nil)))
      (pss_cons (ps_expr (pe_call (ok_chk T TB) (hr.mono (by decide)) rfl T.g_check_limits T.U_check_limits.kp T.b_check_limits .nil pass0 (pa_cons (pv 1) pa_nil)))
      (pss_cons (ps_set (i := 2) nd rfl (.inl rfl) (pe_call (ok_broken T) (hr.mono (by decide)) rfl T.g_broken_limit T.U_broken_limit.kp T.b_broken_limit .nil pass0 (pa_cons (pv 0) (pa_cons (pv 1) pa_nil))))
      (pss_cons (ps_if (pt_cmpR op_isN (pv 2) pe_non (nomark _))
        (pss_one (ps_ret pe_non))
        (pss_nil))
      (pss_cons (ps_asg (pv 2) (pg_tup rfl (pgs_cons (pg_name (i := 3) nd rfl (.inr rfl)) (pgs_cons (pg_name (i := 4) nd rfl (.inr rfl)) pgs_nil))))
      (pss_cons (ps_set (i := 5) nd rfl (.inr rfl) (pe_callB (cr_max rfl) (by rfl) T.max (by decide +kernel) (pa_cons (pe_lc (own := [("_", 6), ("late", 7)]) (g := gTup _ 2 (gCons (gName 6) (gCons (gName 7) gNil))) (tt := tYes) rfl nd (pi_tup (pv 0)) (blkOk_by (N := ["parts", "shared", "broken", "most", "wide", "meeting", "_", "late", "part"]) (sc := defScope s_breaking) (by decide +kernel)) (fun _ _ _ _ _ => pg_tup rfl (pgs_cons (pg_name (i := 6) nd rfl (.inl rfl)) (pgs_cons (pg_name (i := 7) nd rfl (.inl rfl)) pgs_nil))) (fun _ _ _ _ _ => pts_nil) (fun _ _ _ _ _ => pv 7)) pa_nil)))
      (pss_one (ps_ret (pe_callTy call_tuple_of (by rfl) T.tuple (by decide +kernel) (pa_cons (pe_lc (own := [("part", 8)]) (g := gName 8) (tt := tYes) rfl nd (pi_tup (pv 0)) (blkOk_by (N := ["parts", "shared", "broken", "most", "wide", "meeting", "_", "late", "part"]) (sc := defScope s_breaking) (by decide +kernel)) (fun _ _ _ _ _ => pg_name (i := 8) nd rfl (.inl rfl)) (fun _ _ _ _ _ => pts_nil) (fun _ _ _ _ _ => pe_call (ok_crowd T) (hr.mono (by decide)) rfl T.g_crowded_row T.U_crowded_row.kp T.b_crowded_row .nil pass0 (pa_cons (pv 8) (pa_cons (pv 5) (pa_cons (pv 4) (pa_cons (pe_op op_add (pv 3) pe_int) pa_nil)))))) pa_nil))))))))), ?_⟩
    refine ⟨_, rfl, pv', cs, rfl, hP, l1, l6, hc, hT, fun H1 u1 => ?_⟩
    have st1 := u1.stay hT
    refine ⟨_, rfl, sv, _, rfl, hS.stay st1, lims_good hg.1 hg.2, u1.1, fun H2 u2 => ?_⟩
    have u12 := u1.trans u2
    have st2 := u12.stay hT
    refine ⟨_, rfl, _, rfl, pv', sv, cs, ps, rfl, hP.stay st2, l6, hc, hS.stay st2, hg, fun v H3 s3 hv => gn ?_⟩
    have u3 := u12.trans (.same u12.1 s3)
    rcases hv with ⟨e, rfl⟩ | ⟨e, a, q, rfl, hq, hb, ea⟩
    · dsimp only
      exact ⟨_, rfl, rfl, _, rfl, iteT (k1 e H3 u3)⟩
    · dsimp only
      refine ⟨_, rfl, rfl, _, rfl, iteF (next_of ?_)⟩
      dsimp only
      refine ⟨_, rfl, a, _, rfl, SqT.of ea, rfl, _, _, rfl, _, _, rfl, rfl, ?_⟩
      dsimp only
      have hP3 := hP.stay (u3.stay hT)
      have hqq := hg.2 q hq
      obtain ⟨pa, pxs, rfl, ep, op⟩ := od_tup hP3
      have lpx : pxs.length = cs.length := by rw [op.len, List.length_map]
      refine ⟨_, rfl, pa, rfl, ⟨_, SqT.of ep⟩, fun Dn hDn => lc_tup (K := K) (a := pa) (xs := pxs) (fun i Hx => Same H3 Hx ∧ Hx Dn = some (.lst (((cs.take i).map (·.2)).map V.int))) ⟨same_upd hDn, upd_same⟩ (fun i Hx _ z => SqT.of (z.1 _ _ ep)) ?_ ?_⟩
      · rintro i x Hx hx ⟨sx, ex⟩
        obtain ⟨d, hdm, od⟩ := od_at op hx
        rw [List.getElem?_map] at hdm
        obtain ⟨c, hcm, rfl⟩ := Option.map_eq_some_iff.mp hdm
        obtain ⟨t, txs, rfl, et, ot⟩ := od_tup od
        match txs, ot with
        | [lv, dv], .cons o1 (.cons o2 .nil) =>
        cases o2
        refine ⟨t, _, rfl, SqT.of (sx _ _ et), rfl, _, _, rfl, _, _, rfl, rfl, rfl, ?_⟩
        unfold tYes
        dsimp only
        rw [if_pos rfl]
        refine ⟨_, rfl, _, ex, by rw [List.length_map, List.length_map, List.length_take]; omega, same_into hDn sx, ?_⟩
        rw [upd_same, List.take_add_one, hcm, List.map_append, List.map_append]
        rfl
      · rintro Hx ⟨sx, ex⟩
        rw [lpx, List.take_length] at ex
        refine ⟨Dn, cs.map (·.2), rfl, SqL.of ex, by rw [List.length_map]; omega, fun M hM hle => gn ?_⟩
        dsimp only
        have hMc : ∀ c ∈ cs, c.2 ≤ M := fun c hc => hle _ (List.mem_map.mpr ⟨c, hc, rfl⟩)
        obtain ⟨c0, hc0, hc0M⟩ := List.mem_map.mp hM
        have hM0 : 0 ≤ M := by rw [← hc0M]; exact (hc c0 hc0).2.1
        have hM24 : M ≤ 24 := by rw [← hc0M]; exact (hc c0 hc0).2.2
        have ux := u3.trans (.same u3.1 sx)
        refine ⟨_, rfl, pa, rfl, ⟨_, SqT.of (sx _ _ ep)⟩, fun Dm hDm => lc_tup (K := K) (a := pa) (xs := pxs) (fun i Hy => Same Hx Hy ∧ ∃ (us : List V) (rows : List (List (Int × Int))), Hy Dm = some (.lst us) ∧ us.length = i ∧ rows.length = i ∧ (∀ (j : Nat) (h : j < rows.length) (h2 : j < cs.length), ∃ ts, SRow cs[j].1 [1] [] (M - cs[j].2) ts ∧ ts.length = (q.1 + 1).toNat ∧ rows[j] = crowdP ts M q.2) ∧ LstT Hy Dm (rows.map limP)) ⟨same_upd hDm, [], [], upd_same, rfl, rfl, fun j h => absurd h (Nat.not_lt_zero _), LstT.at upd_same⟩ (fun i Hy _ z => SqT.of (z.1 _ _ (sx _ _ ep))) ?_ ?_⟩
        · rintro i x Hy hx ⟨sy, us, rows, eu, lu, lr, hr', lt⟩
          obtain ⟨d, hdm, od⟩ := od_at op hx
          have hi := (List.getElem?_eq_some_iff.mp hx).1
          rw [List.getElem?_map] at hdm
          obtain ⟨c, hcm, rfl⟩ := Option.map_eq_some_iff.mp hdm
          obtain ⟨hci, hce⟩ := List.getElem?_eq_some_iff.mp hcm
          have hcc := hc c (List.mem_of_getElem? hcm)
          refine ⟨rfl, ?_⟩
          unfold tYes
          dsimp only
          rw [if_pos rfl]
          refine ⟨_, rfl, _, rfl, _, rfl, _, rfl, _, _, rfl, rfl, x, c, M, q.2, q.1 + 1, rfl, od.same (sx.trans sy), hcc, hMc c (List.mem_of_getElem? hcm), hM24, hqq.2.2.1, hqq.2.2.2, by omega, by omega, fun z ts H6 s6 sr lts oz => ?_⟩
          have lt6 := lt.same s6
          have eu6 := s6 _ _ eu
          refine ⟨us, eu6, by omega, same_into hDm (sy.trans s6), us ++ [z], rows ++ [crowdP ts M q.2], upd_same, by rw [List.length_append, lu]; rfl, by rw [List.length_append, lr]; rfl, fun j h h2 => ?_, ?_⟩
          · rw [List.length_append] at h
            have h : j < rows.length + 1 := h
            by_cases y : j < rows.length
            · rw [List.getElem_append_left y]
              exact hr' j y h2
            · have e : j = i := by omega
              subst e
              refine ⟨ts, by rw [hce]; exact sr, lts, ?_⟩
              rw [List.getElem_append_right (by omega)]
              simp only [show j - rows.length = 0 by omega, List.getElem_cons_zero]
          · rw [List.map_append]
            exact lt6.put eu6 oz (tup_lim _)
        · rintro Hy ⟨sy, us, rows, eu, lu, lr, hr', lt⟩
          rw [lpx] at lr
          refine ⟨Dm, us, rfl, .inl ⟨SqL.of eu, fun R hR => ?_⟩⟩
          exact k2 e _ _ q M rows hq hb hMc hM0 hM24 ⟨lr, hr'⟩ (lt.tup eu hR) ((ux.trans (.same ux.1 sy)).trans (.same (ux.trans (.same ux.1 sy)).1 (same_upd hR)))
end
end KP
set_option Elab.async false
set_option maxRecDepth 100000
set_option maxHeartbeats 4000000
set_option linter.all false
/-! Ours: is_row_of, arrivals. -/
namespace KP
open PySem PySem.Spec PyProof.Rows L2 Gr GxR
theorem pi_tupB {X : Cx} {s : Shared} {H : Hp} {sc : Scope} {en : Env} {fp : List Addr} {tg l : Expr} {tl : TE} (hl : PE (X.blk s H sc en fp) l tl) : PI (X.blk s H sc en fp) tg l (iTup X.K tl) := pi_tup hl
def rowB : List PyData → PyData × PyData → Bool
  | [.int D], (.int a, b) => betwD b a (a + D)
  | _, _ => false
def domR (fd : List PyData) (q : PyData × PyData) : Prop := ∃ (D : Int) (p : Int × Int), fd = [.int D] ∧ q = inD p
def comeL (rows : List (List (Int × Int))) : List Int := rows.flatMap fun qs => qs.map (·.2)
def spIsRow (L : List Addr) : Sp := fun vs H Q _ => ∃ (pv rv : V) (c : List (Int × Int) × Int) (qs : List (Int × Int)), vs = [pv, rv] ∧ Od H pv (partP c) ∧ PartOk c ∧ Od H rv (limP qs) ∧ RowOk c qs ∧ Tb L H ∧ ∀ H', UpL L H H' → Q (.bl true) H'
def RowsOk (cs : List (List (Int × Int) × Int)) (rows : List (List (Int × Int))) : Prop := rows.length = cs.length ∧ ∀ (i : Nat) (h : i < rows.length) (h2 : i < cs.length), RowOk cs[i] rows[i]
def spArr (L : List Addr) : Sp := fun vs H Q _ => ∃ (pv rv : V) (cs : List (List (Int × Int) × Int)) (rows : List (List (Int × Int))), vs = [pv, rv] ∧ Od H pv (.tuple (cs.map partP)) ∧ 1 ≤ cs.length ∧ cs.length ≤ 6 ∧ (∀ c ∈ cs, PartOk c) ∧ Od H rv (.tuple (rows.map limP)) ∧ RowsOk cs rows ∧ Tb L H ∧
  ∀ z ms H', UpL L H H' → IsI H' z ms → ms.Perm (comeL rows) → ms.Pairwise (· ≤ ·) → Q z H'
section
variable {P : Program} {w : World} {K : PySem.W.Frag} {mg : Str → Option Value} {base : Heap}
theorem sc_isrow : FnScope ["part", "value", "limits", "asked", "come", "late", "pair"] ["part", "value"] (defScope s_is_row_of) := ⟨rfl, rfl, rfl, by decide +kernel, rfl, by decide +kernel, by decide +kernel⟩
theorem ok_isrow (T : D K mg) (TB : Tabs base T) : FnOk P w K mg base CX0 5 T.f_is_row_of T.d_is_row_of ["part", "value"] (spIsRow (tabs T)) := by
  refine T.V_is_row_of.ok sc_isrow (fun vs H Q E h => ?_) (fun A outer s H vs Q E hr h => ?_)
  · obtain ⟨pv, rv, c, qs, rfl, _⟩ := h
    rfl
  · obtain ⟨pv', rv, c, qs, rfl, hP, hc, hR, ro, hT, k⟩ := h
    have nd := sc_isrow.nd
    have mz : 5000 ≤ sizeLine := by decide
    refine ⟨_, pss_cons (ps_if (PW.pt (pw_or (pt_not (pt_val (pe_call (ok_row T) (hr.mono (by decide)) rfl T.g_is_tuple T.U_is_tuple.kp T.b_is_tuple .nil pass0 (pa_cons (pv 1) (pa_cons pe_int (pa_cons (pe_glob (v := .int 200) rfl T.g_LONGEST_ROW ⟨_, rfl⟩) pa_nil)))))) (pw_or1 (pt_not (pt_val (pe_allD (pb := fun x => rowD x 2 2) (k := 3) hr (by rfl) T.all TB.d rfl (gens_mk rfl rfl (by decide +kernel) (by rfl) (by rfl) (by decide +kernel)) (pv 1)
          (fun en m h0 v d hsc C hm hv sz => qe_call C (QF.mono (qf_row C.mod T) (by decide)) (by rw [hsc]; decide +kernel) T.g_is_tuple T.U_is_tuple.kp T.b_is_tuple (qes_cons (qe_name C (by rw [hsc]; decide +kernel) hm hv) (qes_cons qe_int (qes_cons qe_int qes_nil))) ⟨d, _, _, rfl, sz, rfl⟩) (fun _ => rfl)))))))
        (pss_one (ps_ret pe_bl))
        (pss_nil))
      (pss_cons (ps_asg (pv 0) (pg_tup rfl (pgs_cons (pg_name (i := 2) nd rfl (.inl rfl)) (pgs_cons (pg_name (i := 5) nd rfl (.inr rfl)) pgs_nil))))
      (pss_cons (ps_setLc (i := 3) (own := [("pair", 6)]) (g := gName 6) (tt := tYes) rfl nd rfl rfl (sw_true rfl rfl rfl (by decide +kernel)) (pi_tup (pv 1)) (blkOk_by (N := ["part", "value", "limits", "asked", "come", "late", "pair"]) (sc := defScope s_is_row_of) (by decide +kernel)) (fun _ _ _ _ _ => pg_name (i := 6) nd rfl (.inl rfl)) (fun _ _ _ _ _ => pts_nil) (fun _ _ _ _ _ => pe_ix ix_tupB (pv 6) pe_int (fun _ _ => rfl)))
      (pss_cons (ps_setLc (i := 4) (own := [("pair", 6)]) (g := gName 6) (tt := tYes) rfl nd rfl rfl (sw_true rfl rfl rfl (by decide +kernel)) (pi_tup (pv 1)) (blkOk_by (N := ["part", "value", "limits", "asked", "come", "late", "pair"]) (sc := defScope s_is_row_of) (by decide +kernel)) (fun _ _ _ _ _ => pg_name (i := 6) nd rfl (.inl rfl)) (fun _ _ _ _ _ => pts_nil) (fun _ _ _ _ _ => pe_ix ix_tupB (pv 6) pe_int (fun _ _ => rfl)))
      (pss_cons (ps_if (PW.pt (pw_or (pt_cmpR op_notN (pe_call (ok_backL T) (hr.mono (by decide)) rfl T.g_first_back T.U_first_back.kp T.b_first_back .nil pass0 (pa_cons (pv 3) pa_nil)) pe_non (nomark _)) (pw_or1 (pt_cmpR op_notN (pe_call (ok_backL T) (hr.mono (by decide)) rfl T.g_first_back T.U_first_back.kp T.b_first_back .nil pass0 (pa_cons (pv 4) pa_nil)) pe_non (nomark _)))))
        (pss_one (ps_ret pe_bl))
        (pss_nil))
      (pss_cons (ps_if (pt_not (pt_val (pe_allTF (xs := ["late"]) (is := [5]) (dom := domR) (pb := rowB) (k := 3) hr (by rfl) T.all TB.d rfl
          ⟨rfl, rfl, by decide +kernel, by rfl, by rfl, by rfl, by decide, ?_, .cons rfl (by rfl) (by decide +kernel) .nil⟩ (pv 1)
          (fun en m h0 va vb q fd hsc C hma hmb ra rb hf hd => ?_) (fun _ => rfl))))
        (pss_one (ps_ret pe_bl))
        (pss_nil))
      (pss_one (ps_ret (pe_cmpR op_isN (pe_call (ok_firstL T TB) hr rfl T.g_first_wrong_ask T.U_first_wrong_ask.kp T.b_first_wrong_ask .nil pass0 (pa_cons (pe_tup (pa_cons (pv 2) (pa_cons (pe_glob (v := .ref T.a_ALWAYS) rfl T.g_ALWAYS rfl) pa_nil))) (pa_cons (pv 3) pa_nil))) pe_non (nomark _))))))))), ?_⟩
    · intro y hy e
      simp only [List.mem_cons, List.not_mem_nil, or_false] at hy
      rcases hy with rfl | rfl | rfl | rfl | rfl
      all_goals first | exact ⟨_, rfl⟩ | cases e
    · obtain ⟨D, p, rfl, rfl⟩ := hd
      cases hf with
      | cons c1 i1 r1 z1 hf =>
        have nlate : ∀ {pos : Pos}, QE P w base h0 3 en m (.Name "late" pos) (.int D) := fun {pos} => qe_free C (by rw [hsc]; decide +kernel) c1 i1 r1
        have nnow : ∀ {pos : Pos}, QE P w base h0 3 en m (.Name "now" pos) (.int p.1) := fun {pos} => qe_name C (by rw [hsc]; decide +kernel) hma ra
        have nthen : ∀ {pos : Pos}, QE P w base h0 3 en m (.Name "then" pos) (.int p.2) := fun {pos} => qe_name C (by rw [hsc]; decide +kernel) hmb rb
        exact qe_call C (QF.mono (qf_betw C.mod T) (by decide)) (by rw [hsc]; decide +kernel) T.g_is_between T.U_is_between.kp T.b_is_between (qes_cons nthen (qes_cons nnow (qes_cons (qe_add nnow nlate) qes_nil))) ⟨.int p.2, _, _, rfl, rfl⟩
    · obtain ⟨ra, rxs, rfl, er, oR⟩ := od_tup hR
      obtain ⟨pa, pxs, rfl, ep, op⟩ := od_tup hP
      have lrx : rxs.length = qs.length := by rw [oR.len, List.length_map, List.length_map]
      have hl := ro.len
      match pxs, op with
      | [lv, dv], .cons o1 (.cons o2 .nil) =>
      cases o2
      refine ⟨_, rfl, .ref ra, _, 0, 200, rfl, hR, _, rfl, ?_⟩
      have e0 : rowD (limP qs) 0 200 = true := by
        show (decide ((0 : Int) ≤ (((qs.map inD).map tw).length : Nat)) && decide (((((qs.map inD).map tw).length : Nat) : Int) ≤ 200)) = true
        rw [List.length_map, List.length_map, decide_eq_true (by omega), decide_eq_true (by omega)]
        rfl
      rw [e0]
      refine iteF ⟨_, rfl, _, hR.dq, hT _ (by simp [tabs]), fun H1 t1 => ⟨_, rfl, ?_⟩⟩
      have e1 : ((qs.map inD).map tw).all (fun x => rowD x 2 2) = true := List.all_eq_true.mpr fun x hx => by
        obtain ⟨y, _, rfl⟩ := List.mem_map.mp hx
        rfl
      rw [e1]
      refine iteF (next_of ?_)
      dsimp only
      have u1 : UpL (tabs T) H H1 := .tab hT t1 (by simp [tabs])
      have s1 := u1.stay hT
      have er1 := s1 _ _ er fun _ q => nomatch q
      have oR1 := oR.stay s1
      have o11 := o1.stay s1
      refine ⟨_, rfl, pa, _, rfl, SqT.of (s1 _ _ ep fun _ q => nomatch q), rfl, _, _, rfl, _, _, rfl, rfl, ?_⟩
      dsimp only
      refine ⟨_, rfl, ra, rfl, ⟨_, SqT.of er1⟩, fun D1 h1 => lc_tup (K := K) (a := ra) (xs := rxs) (fun i Hx => Same H1 Hx ∧ Hx D1 = some (.lst (((qs.take i).map (·.1)).map V.int))) ⟨same_upd h1, upd_same⟩ (fun i Hx _ z => SqT.of (z.1 _ _ er1)) ?_ ?_⟩
      · rintro i x Hx hx ⟨sx, ex⟩
        obtain ⟨q, b, hqm, rfl, eb⟩ := pair_at oR1 hx
        refine ⟨rfl, ?_⟩
        unfold tYes
        dsimp only
        rw [if_pos rfl]
        refine ⟨_, rfl, b, _, 0, _, rfl, rfl, SqT.of (sx _ _ eb), rfl, _, ex, by rw [List.length_map, List.length_map, List.length_take]; omega, same_into h1 sx, ?_⟩
        rw [upd_same, List.take_add_one, hqm, List.map_append, List.map_append]
        rfl
      · rintro Hx ⟨sx, ex⟩
        rw [lrx, List.take_length] at ex
        refine gn ?_
        dsimp only
        have er2 := sx _ _ er1
        have oR2 := oR1.same sx
        refine ⟨_, rfl, ra, rfl, ⟨_, SqT.of er2⟩, fun D2 h2 => lc_tup (K := K) (a := ra) (xs := rxs) (fun i Hy => Same Hx Hy ∧ Hy D2 = some (.lst (((qs.take i).map (·.2)).map V.int))) ⟨same_upd h2, upd_same⟩ (fun i Hy _ z => SqT.of (z.1 _ _ er2)) ?_ ?_⟩
        · rintro i x Hy hx ⟨sy, ey⟩
          obtain ⟨q, b, hqm, rfl, eb⟩ := pair_at oR2 hx
          refine ⟨rfl, ?_⟩
          unfold tYes
          dsimp only
          rw [if_pos rfl]
          refine ⟨_, rfl, b, _, 1, _, rfl, rfl, SqT.of (sy _ _ eb), rfl, _, ey, by rw [List.length_map, List.length_map, List.length_take]; omega, same_into h2 sy, ?_⟩
          rw [upd_same, List.take_add_one, hqm, List.map_append, List.map_append]
          rfl
        · rintro Hy ⟨sy, ey⟩
          rw [lrx, List.take_length] at ey
          refine gn ?_
          dsimp only
          have exy := sy _ _ ex
          have u2 := u1.trans (.same u1.1 (sx.trans sy))
          refine ⟨_, rfl, D1, _, rfl, exy, ro.asked, fun H3 s3 => ⟨rfl, _, rfl, iteF ⟨_, rfl, D2, _, rfl, s3 _ _ ey, ro.come, fun H4 s4 => ⟨rfl, _, rfl, iteF (next_of ?_)⟩⟩⟩⟩
          dsimp only
          have s34 := s3.trans s4
          have u4 := u2.trans (.same u2.1 s34)
          have oR4 : Od H4 (.ref ra) (limP qs) := hR.stay (u4.stay hT)
          refine ⟨_, rfl, qs.map inD, [.int c.2], oR4.dq, .cons rfl (.int _) .nil, fun q hq => ?_, u4.1 _ (by simp [tabs]), fun H5 t5 => ⟨_, rfl, ?_⟩⟩
          · obtain ⟨p, hp, rfl⟩ := List.mem_map.mp hq
            exact ⟨_, p, rfl, rfl⟩
          have e5 : (qs.map inD).all (rowB [.int c.2]) = true := List.all_eq_true.mpr fun x hx => by
            obtain ⟨q, hq, rfl⟩ := List.mem_map.mp hx
            have := ro.late q hq
            show (decide (q.1 ≤ q.2) && decide (q.2 ≤ q.1 + c.2)) = true
            rw [decide_eq_true this.1, decide_eq_true this.2]
            rfl
          rw [e5]
          refine iteF (next_of ?_)
          dsimp only
          have u5' : UpL (tabs T) H4 H5 := .tab u4.1 t5 (by simp [tabs])
          have u5 := u4.trans u5'
          have ex5 := u5'.stay u4.1 _ _ (s34 _ _ exy) fun _ q => nomatch q
          refine ⟨_, rfl, by show 2 ≤ sizeLine; omega, fun t1 ht1 => ⟨_, rfl, ?_⟩⟩
          have s6 := same_upd (o := HO.tup [lv, V.ref T.a_ALWAYS]) ht1
          have u6 := u5.trans (.same u5.1 s6)
          refine ⟨.ref t1, D1, c.1, [1], qs.map (·.1), rfl, ⟨t1, lv, _, rfl, upd_same, (o1.stay (u5.stay hT)).same s6, hrs_always T _⟩, fun p hp => (hc.1.2 p hp).1, Nat.zero_lt_one, s6 _ _ ex5, by rw [List.length_map]; omega, ro.pol, u6.1, fun H7 u7 => ⟨rfl, k H7 (u6.trans u7)⟩⟩
theorem sc_arr : FnScope ["parts", "rows", "index", "row", "_", "come"] ["parts", "rows"] (defScope s_arrivals) := ⟨rfl, rfl, rfl, by decide +kernel, rfl, by decide +kernel, by decide +kernel⟩
theorem ok_arr (T : D K mg) (TB : Tabs base T) : FnOk P w K mg base CX0 8 T.f_arrivals T.d_arrivals ["parts", "rows"] (spArr (tabs T)) := by
  refine T.U_arrivals.ok sc_arr (fun vs H Q E h => ?_) (fun cdv A outer s H vs Q E hr h => ?_)
  · obtain ⟨pv, rv, cs, rows, rfl, _⟩ := h
    rfl
  · obtain ⟨pv', rv, cs, rows, rfl, hP, l1, l6, hc, hR, ⟨hrl, hro⟩, hT, k⟩ := h
    have nd := sc_arr.nd
    have mz : 5000 ≤ sizeLine := by decide
    refine ⟨_, pss_cons (ps_expr (pe_call (ok_parts T TB) hr rfl T.g_check_parts T.U_check_parts.kp T.b_check_parts .nil pass0 (pa_cons (pv 0) pa_nil)))
      (pss_cons (ps_if (pt_not (pt_val (pe_call (ok_row T) (hr.mono (by decide)) rfl T.g_is_tuple T.U_is_tuple.kp T.b_is_tuple .nil pass0 (pa_cons (pv 1) (pa_cons (pe_callB call_len_seq (by rfl) T.len PySem.boot_len (pa_cons (pv 0) pa_nil)) (pa_cons (pe_callB call_len_seq (by rfl) T.len PySem.boot_len (pa_cons (pv 0) pa_nil)) pa_nil))))))
        (pss_one (ps_never))
        (pss_nil))
      (pss_cons (ps_for PassesOwn.never rfl (pi_enumT (by rfl) T.enumerate (pa_cons (pv 1) pa_nil)) (pg_tup rfl (pgs_cons (pg_name (i := 2) nd rfl (.inl rfl)) (pgs_cons (pg_name (i := 3) nd rfl (.inl rfl)) pgs_nil)))
        (pss_one (ps_if (pt_not (pt_val (pe_call (ok_isrow T TB) (hr.mono (by decide)) rfl T.g_is_row_of T.U_is_row_of.kp T.b_is_row_of .nil pass0 (pa_cons (pe_ix ix_tup (pv 0) (pv 2) (fun _ _ => rfl)) (pa_cons (pv 3) pa_nil)))))
          (pss_one (ps_never))
          (pss_nil))))
      (pss_one (ps_ret (pe_callTy call_tuple_of (by rfl) T.tuple (by decide +kernel) (pa_cons (pe_callB cr_sortedI (by rfl) T.sorted (by decide +kernel) (pa_cons (pe_lc2 (own := [("row", 3), ("_", 4), ("come", 5)]) (vs1 := [4, 5]) (g := gName 3) (tt := tYes) (g1 := gTup _ 2 (gCons (gName 4) (gCons (gName 5) gNil))) (tt1 := tYes) rfl nd (pi_tup (pv 1)) (blkOk_by (N := ["parts", "rows", "index", "row", "_", "come"]) (sc := defScope s_arrivals) (by decide +kernel)) (by decide) (fun _ _ _ _ _ => pg_name (i := 3) nd rfl (.inl rfl)) (fun _ _ _ _ _ => pts_nil) (fun _ _ _ _ _ => pi_tupB (pv 3)) (fun _ _ _ _ _ => pg_tup rfl (pgs_cons (pg_name (i := 4) nd rfl (.inl rfl)) (pgs_cons (pg_name (i := 5) nd rfl (.inl rfl)) pgs_nil))) (fun _ _ _ _ _ => pts_nil) (fun _ _ _ _ _ => pv 5)) pa_nil)) pa_nil)))))), ?_⟩
    refine ⟨_, rfl, pv', cs, rfl, hP, l1, l6, hc, hT, fun H1 u1 => ?_⟩
    have st1 := u1.stay hT
    have hP1 := hP.stay st1
    have hR1 := hR.stay st1
    obtain ⟨pa, pxs, rfl, ep, op⟩ := od_tup hP1
    obtain ⟨ra, rxs, rfl, er, oR⟩ := od_tup hR1
    have lpx : pxs.length = cs.length := by rw [op.len, List.length_map]
    have lrx : rxs.length = rows.length := by rw [oR.len, List.length_map]
    refine ⟨_, rfl, _, rfl, pa, _, rfl, .inr (SqT.of ep), _, rfl, pa, _, rfl, .inr (SqT.of ep), .ref ra, _, _, _, rfl, hR1, _, rfl, ?_⟩
    have e0 : rowD (.tuple (rows.map limP)) ((pxs.length : Nat) : Int) ((pxs.length : Nat) : Int) = true := by
      show (decide (((pxs.length : Nat) : Int) ≤ ((rows.map limP).length : Nat)) && decide ((((rows.map limP).length : Nat) : Int) ≤ ((pxs.length : Nat) : Int))) = true
      rw [List.length_map, decide_eq_true (by omega), decide_eq_true (by omega)]
      rfl
    rw [e0]
    refine iteF (next_of ?_)
    dsimp only
    refine ⟨_, rfl, ra, _, rfl, SqT.of er, for_it (walk_tp (K := K) (a := ra) (xs := rxs)) (fun i σ H2 => UpL (tabs T) H1 H2 ∧ ∃ (v2 v3 : Option V), σ = [some (.ref pa), some (.ref ra), v2, v3, none, none]) ⟨.refl u1.1, none, none, rfl⟩ (fun i σ H2 _ q => SqT.of (q.1.stay u1.1 _ _ er fun _ z => nomatch z)) ?_ ?_⟩
    · rintro i x σ H2 H3 hi ⟨u2, v2, v3, rfl⟩ ⟨Tt, y, rfl, hTn, rfl, hy⟩
      have u3 := u2.trans (.same u2.1 (same_upd (o := HO.tup [V.int (i : Nat), y]) hTn))
      refine ⟨_, _, rfl, SqT.of upd_same, rfl, _, _, rfl, _, _, rfl, rfl, ?_⟩
      dsimp only
      generalize upd H2 Tt (.tup [V.int (i : Nat), y]) = H3 at *
      have st3 := u3.stay u1.1
      obtain ⟨d, hdm, od⟩ := od_at oR hy
      rw [List.getElem?_map] at hdm
      obtain ⟨qs, hqm, rfl⟩ := Option.map_eq_some_iff.mp hdm
      obtain ⟨hir, hqe⟩ := List.getElem?_eq_some_iff.mp hqm
      have hic : i < cs.length := by omega
      have hip : i < pxs.length := by omega
      obtain ⟨d2, hdm2, od2⟩ := od_at op (List.getElem?_eq_getElem hip)
      rw [List.getElem?_map, List.getElem?_eq_getElem hic] at hdm2
      cases hdm2
      have hro' := hro i hir hic
      rw [hqe] at hro'
      refine ⟨_, rfl, _, rfl, pa, _, (i : Nat), pxs[i], rfl, rfl, SqT.of (st3 _ _ ep fun _ z => nomatch z), atI_nat (List.getElem?_eq_getElem hip), _, rfl, pxs[i], y, cs[i], qs, rfl, od2.stay st3, hc _ (List.getElem_mem hic), od.stay st3, hro', u3.1, fun H4 u4 => ⟨_, rfl, iteF ⟨u3.trans u4, _, _, rfl⟩⟩⟩
    · rintro σ H2 ⟨u2, v2, v3, rfl⟩
      have er2 := u2.stay u1.1 _ _ er fun _ z => nomatch z
      have oR2 := oR.stay (u2.stay u1.1)
      refine ⟨_, rfl, ra, rfl, ⟨_, SqT.of er2⟩, fun Dn hDn => walk_loop (walk_tup (K := K) (a := ra) (xs := rxs)) (fun i Hx => Same H2 Hx ∧ Hx Dn = some (.lst ((comeL (rows.take i)).map V.int)) ∧ (comeL (rows.take i)).length ≤ 200 * i) ⟨same_upd hDn, upd_same, Nat.zero_le _⟩ (fun i Hx _ z => SqT.of (z.1 _ _ er2)) ?_ ?_⟩
      · rintro i x Hx H' hi ⟨sx, ex, lx⟩ ⟨rfl, hx⟩
        obtain ⟨d, hdm, od⟩ := od_at oR2 hx
        rw [List.getElem?_map] at hdm
        obtain ⟨qs, hqm, rfl⟩ := Option.map_eq_some_iff.mp hdm
        obtain ⟨hir, hqe⟩ := List.getElem?_eq_some_iff.mp hqm
        have hro' := (hro i hir (by omega)).len
        rw [hqe] at hro'
        have e9 : comeL (rows.take (i + 1)) = comeL (rows.take i) ++ qs.map (·.2) := by
          unfold comeL
          rw [List.take_add_one, hqm, List.flatMap_append]
          simp
        obtain ⟨qa, qxs, rfl, eq, oq⟩ := od_tup (od.same sx)
        have lqx : qxs.length = qs.length := by rw [oq.len, List.length_map, List.length_map]
        refine ⟨rfl, ?_⟩
        unfold tYes
        dsimp only
        rw [if_pos rfl]
        refine ⟨_, rfl, qa, rfl, ⟨_, SqT.of eq⟩, walk_loop (walk_tup (K := K) (a := qa) (xs := qxs)) (fun j Hy => Same H2 Hy ∧ (∀ b o, H' b = some o → b ≠ Dn → Hy b = some o) ∧ Hy Dn = some (.lst ((comeL (rows.take i) ++ (qs.take j).map (·.2)).map V.int))) ⟨sx, fun _ _ e _ => e, by rw [List.take_zero, List.map_nil, List.append_nil]; exact ex⟩ (fun j Hy _ z => SqT.of (z.2.1 _ _ eq fun h => by rw [h, ex] at eq; cases eq)) ?_ ?_⟩
        · rintro j x Hy Hy' hj ⟨sy, by', ey⟩ ⟨rfl, hx'⟩
          obtain ⟨q, b, hqm', rfl, eb⟩ := pair_at oq hx'
          have ebne : b ≠ Dn := fun h => by rw [h, ex] at eb; cases eb
          refine ⟨b, _, rfl, SqT.of (by' _ _ eb ebne), rfl, _, _, rfl, _, _, rfl, rfl, rfl, ?_⟩
          rw [if_pos rfl]
          refine ⟨_, rfl, _, ey, by rw [List.length_map, List.length_append, List.length_map, List.length_take]; omega, same_into hDn sy, fun b' o e n => (upd_ne n).trans (by' b' o e n), ?_⟩
          rw [upd_same, List.take_add_one, hqm', List.map_append, List.map_append, List.map_append, List.map_append]
          simp
        · rintro Hy ⟨sy, by', ey⟩
          rw [lqx, List.take_length, ← e9] at ey
          refine ⟨sy, ey, ?_⟩
          rw [e9, List.length_append, List.length_map]
          omega
      · rintro Hx ⟨sx, ex, lx⟩
        rw [lrx, List.take_length] at ex
        refine ⟨Dn, _, rfl, SqL.of ex, fun ms p1 hperm hpw hp1 => ?_⟩
        have s1 := same_upd (o := HO.lst (ms.map V.int)) hp1
        refine ⟨p1, _, rfl, .inl ⟨SqL.of upd_same, fun R hR => ?_⟩⟩
        have s2 := same_upd (o := HO.tup (ms.map V.int)) hR
        have u12 := u1.trans u2
        exact k _ ms _ (u12.trans (.same u12.1 (sx.trans (s1.trans s2)))) ⟨R, rfl, upd_same⟩ hperm hpw
end
end KP
set_option Elab.async false
set_option maxRecDepth 100000
set_option maxHeartbeats 4000000
set_option linter.all false
/-! Ours: close rows are rows, and break what is not kept: the mathematics. -/
namespace KP
open PySem PySem.Spec PyProof.Rows L2 Gr GxR
theorem asc_of : ∀ {l : List Int} {m : Int}, l.Pairwise (· ≤ ·) → (∀ x ∈ l, m ≤ x) → asc m l
  | [], _, _, _ => trivial
  | a :: l, m, h, hm => by
    cases h with
    | cons h1 h2 => exact ⟨hm a List.mem_cons_self, asc_of h2 h1⟩
theorem asc_ge : ∀ {l : List Int} {m : Int}, asc m l → ∀ x ∈ l, m ≤ x
  | a :: l, m, h, x, hx => by
    rcases List.mem_cons.mp hx with z | z
    · rw [z]; exact h.1
    · have := asc_ge h.2 x z
      have := h.1
      omega
theorem pw_of {l : List Int} (h : Srt l) : l.Pairwise (· ≤ ·) := List.pairwise_iff_getElem.mpr fun i j hi hj hij => h i j hi hj (Nat.le_of_lt hij)
theorem filter_take : ∀ {l : List Int} {e : Int}, l.Pairwise (· ≤ ·) → ∃ k, (l.filter fun t => decide (t < e)) = l.take k
  | [], _, _ => ⟨0, rfl⟩
  | a :: l, e, h => by
    cases h with
    | cons h1 h2 =>
      by_cases z : a < e
      · obtain ⟨k, hk⟩ := filter_take (e := e) h2
        exact ⟨k + 1, by rw [List.filter_cons_of_pos (by exact decide_eq_true z), hk, List.take_succ_cons]⟩
      · refine ⟨0, ?_⟩
        rw [List.take_zero]
        refine List.filter_eq_nil_iff.mpr fun x hx hd => ?_
        have hd := of_decide_eq_true hd
        rcases List.mem_cons.mp hx with y | y
        · omega
        · have := h1 x y
          omega
theorem row_polite0 {ps : List (Int × Int)} {hs ts : List Int} {st : Int} (sr : SRow ps hs [] st ts) : Polite ps hs ts := fun j hj => by
  have eg : ts.getD j 0 = ts[j] := by rw [List.getD_eq_getElem?_getD, List.getElem?_eq_getElem hj]; rfl
  unfold politeAt
  rw [eg]
  have nx := sr j hj
  have h2 := nx.all
  rw [List.nil_append] at h2
  rw [nx.opn, h2]
  rfl
theorem crowd_ok {c : List (Int × Int) × Int} (hc : PartOk c) {ts : List Int} {M W : Int} (hM : c.2 ≤ M) (hM4 : M ≤ 24) (hW : W ≤ 12) (sr : SRow c.1 [1] [] (M - c.2) ts) (hl : ts.length ≤ 60) : RowOk c (crowdP ts M W) := by
  have pw := pw_of (row_srt0 sr)
  have pf : (ts.filter fun t => decide (t < M + W)).Pairwise (· ≤ ·) := pw.filter _
  have lo : ∀ x ∈ (ts.filter fun t => decide (t < M + W)), M - c.2 ≤ x := fun x hx => row_from sr x (List.mem_filter.mp hx).1
  have ea := crowd_asked ts M W
  have ec : (crowdP ts M W).map (·.2) = (ts.filter fun t => decide (t < M + W)).map (max · M) := by
    unfold crowdP
    rw [List.map_map]
    rfl
  refine ⟨?_, ?_, ?_, fun q hq => ?_, ?_, fun q hq => ?_⟩
  · unfold crowdP
    rw [List.length_map]
    exact Nat.le_trans (List.length_filter_le _ _) hl
  · rw [ea]
    exact asc_of pf fun x hx => by have := lo x hx; omega
  · rw [ec]
    refine asc_of (List.pairwise_map.mpr (pf.imp fun h => by omega)) fun x hx => ?_
    obtain ⟨y, hy, rfl⟩ := List.mem_map.mp hx
    have := lo y hy
    have := hc.2.1
    omega
  · unfold crowdP at hq
    obtain ⟨t, ht, rfl⟩ := List.mem_map.mp hq
    have := lo t ht
    have := hc.2.1
    show t ≤ max t M ∧ max t M ≤ t + c.2
    omega
  · rw [ea]
    obtain ⟨k, hk⟩ := filter_take (e := M + W) pw
    rw [hk]
    exact row_polite0 (sr.take k)
  · unfold crowdP at hq
    obtain ⟨t, ht, rfl⟩ := List.mem_map.mp hq
    have := of_decide_eq_true (List.mem_filter.mp ht).2
    show max t M ≤ 10000
    omega
theorem breaks_ok {cs : List (List (Int × Int) × Int)} {q : Int × Int} {M : Int} {rows : List (List (Int × Int))} (hc : ∀ c ∈ cs, PartOk c) (hM : ∀ c ∈ cs, c.2 ≤ M) (hM4 : M ≤ 24) (hW : q.2 ≤ 12) (hq : q.1 ≤ 6) (b : Breaks cs q M rows) : RowsOk cs rows := by
  refine ⟨b.len, fun i h h2 => ?_⟩
  obtain ⟨ts, sr, hl, e⟩ := b.rows i h h2
  rw [e]
  exact crowd_ok (hc _ (List.getElem_mem h2)) (hM _ (List.getElem_mem h2)) hM4 hW sr (by omega)
theorem come_len (rows : List (List (Int × Int))) : (comeL rows).length = (rows.map fun qs => qs.length).sum := by
  unfold comeL
  rw [List.length_flatMap]
  congr 1
  exact List.map_congr_left fun qs _ => List.length_map _
theorem mem_sum {l : List Nat} {a : Nat} (h : a ∈ l) : a ≤ l.sum := by
  induction l with
  | nil => cases h
  | cons b l ih =>
    rw [List.sum_cons]
    rcases List.mem_cons.mp h with z | z
    · omega
    · have := ih z; omega
theorem breaks_len {cs : List (List (Int × Int) × Int)} {q : Int × Int} {M : Int} {rows : List (List (Int × Int))} (hc : ∀ c ∈ cs, PartOk c) (hM : ∀ c ∈ cs, c.2 ≤ M) (hq1 : 1 ≤ q.1) (w1 : 1 ≤ q.2) (b : Breaks cs q M rows) (hb : pairB cs q = false) : q.1 < ((comeL rows).length : Nat) := by
  rw [come_len]
  by_cases z : ∃ (i : Nat) (h : i < rows.length), rows[i].length = (q.1 + 1).toNat
  · obtain ⟨i, h, e⟩ := z
    have := mem_sum (l := rows.map fun qs => qs.length) (List.mem_map.mpr ⟨rows[i], List.getElem_mem h, e⟩)
    omega
  · have key : ∀ (i : Nat) (h : i < cs.length) (h2 : i < rows.length), cs[i].1 ≠ [] ∧ mw cs[i].1 (q.2 + cs[i].2) ≤ rows[i].length := fun i h h2 => by
      obtain ⟨ts, sr, hl, e⟩ := b.rows i h2 h
      rcases crowd_len (hc _ (List.getElem_mem h)) w1 (hM _ (List.getElem_mem h)) sr hl with y | y
      · exact absurd ⟨i, h2, by rw [e]; exact y⟩ z
      · rw [e]
        exact y
    rcases pairB_false hb with ⟨c, hcm, y⟩ | y
    · obtain ⟨i, h, rfl⟩ := List.getElem_of_mem hcm
      exact absurd y (key i h (by rw [b.len]; exact h)).1
    · have := sum_zip (fun c : List (Int × Int) × Int => mw c.1 (q.2 + c.2)) (fun qs : List (Int × Int) => qs.length) b.len.symm fun i h h2 => (key i h h2).2
      omega
theorem none_polite {ps : List (Int × Int)} {hs ns : List Int} (h : firstI ps hs ns = none) : Polite ps hs ns := fun j hj => by
  unfold firstI at h
  rw [List.find?_eq_none] at h
  have := h j (List.mem_range.mpr hj)
  simpa using this
theorem breaks_first {cs : List (List (Int × Int) × Int)} {ps : List (Int × Int)} {q : Int × Int} {M : Int} {rows : List (List (Int × Int))} (hc : ∀ c ∈ cs, PartOk c) (hg : Lm ps) (hq : q ∈ ps) (hM : ∀ c ∈ cs, c.2 ≤ M) (b : Breaks cs q M rows) (hb : pairB cs q = false) {ms : List Int} (hm : ms.Perm (comeL rows)) (hs : ms.Pairwise (· ≤ ·)) : ∃ i, firstI ps [1] ms = some i := by
  cases hf : firstI ps [1] ms with
  | some i => exact ⟨i, rfl⟩
  | none =>
    exfalso
    have hp := none_polite hf
    have g := hg.2 q hq
    have hl := breaks_len hc hM g.1 g.2.2.1 b hb
    rw [← hm.length_eq] at hl
    obtain ⟨k, hk⟩ := Int.eq_ofNat_of_zero_le (show 0 ≤ q.1 by omega)
    have hkl : k < ms.length := by omega
    have rng : ∀ x ∈ ms, M ≤ x ∧ x < M + q.2 := fun x hx => by
      have hx := hm.mem_iff.mp hx
      unfold comeL at hx
      obtain ⟨qs, hqs, hx⟩ := List.mem_flatMap.mp hx
      obtain ⟨i, hi, rfl⟩ := List.getElem_of_mem hqs
      obtain ⟨ts, sr, _, e⟩ := b.rows i hi (by rw [← b.len]; exact hi)
      rw [e] at hx
      unfold crowdP at hx
      rw [List.map_map] at hx
      obtain ⟨t, ht, rfl⟩ := List.mem_map.mp hx
      have := of_decide_eq_true (List.mem_filter.mp ht).2
      show M ≤ max t M ∧ max t M < M + q.2
      omega
    have pa := hp k hkl
    have eg : ms.getD k 0 = ms[k] := by rw [List.getD_eq_getElem?_getD, List.getElem?_eq_getElem hkl]; rfl
    unfold politeAt at pa
    rw [eg, Bool.and_eq_true] at pa
    have a := List.all_eq_true.mp pa.2 q hq
    rw [ap_count (srt_take (srt_of_pairwise hs) k) g.1, above_all (fun x hx => by
      have h1 := rng x (List.mem_of_mem_take hx)
      have h2 := rng _ (List.getElem_mem hkl)
      omega), List.length_take] at a
    have a := of_decide_eq_true a
    omega
end KP
set_option Elab.async false
set_option maxRecDepth 100000
set_option maxHeartbeats 4000000
set_option linter.all false
/-! Ours: the law's looks at rows: is_whole, row_formed, come, close. -/
namespace KP
open PySem PySem.Spec PyProof.Rows L2 Gr GxR
def spCome : Sp := fun vs H Q _ => ∃ (lv : V) (rows : List (List (Int × Int))), vs = [lv] ∧ Od H lv (.tuple (rows.map limP)) ∧ rows.length ≤ 6 ∧ (∀ qs ∈ rows, qs.length ≤ 200) ∧ ∀ z ms H', Same H H' → IsI H' z ms → ms.Perm (comeL rows) → ms.Pairwise (· ≤ ·) → Q z H'
section
variable {P : Program} {w : World} {K : PySem.W.Frag} {mg : Str → Option Value} {base : Heap}
theorem sc_lwhole : FnScope ["_law_value"] ["_law_value"] (defScope s_l_is_whole) := ⟨rfl, rfl, rfl, by decide +kernel, rfl, by decide +kernel, by decide +kernel⟩
theorem ok_lwhole (T : D K mg) : FnOk P w K mg base CX0 1 T.f_l_is_whole T.d_l_is_whole ["_law_value"] spWhole := by
  refine T.U_l_is_whole.ok sc_lwhole (fun vs H Q E h => ?_) (fun cdv A outer s H vs Q E hr h => ?_)
  · obtain ⟨v, d, rfl, _⟩ := h
    rfl
  · obtain ⟨v, d, rfl, hd, k⟩ := h
    have nd := sc_lwhole.nd
    refine ⟨_, pss_one (ps_ret (pe_and (pe_callB call_isi (by rfl) T.isinstance (by decide +kernel) (pa_cons (pv 0) (pa_cons (pe_bltn (v := .ty "int") (by rfl) T.int (by decide +kernel) rfl) pa_nil))) (pe_one (pe_not (pe_callB call_isi (by rfl) T.isinstance (by decide +kernel) (pa_cons (pv 0) (pa_cons (pe_bltn (v := .ty "bool") (by rfl) T.bool (by decide +kernel) rfl) pa_nil))))))), ?_⟩
    refine and_pure (isIntD d) (!isBoolD d) (fun Q' q' => ⟨_, rfl, _, _, _, _, _, rfl, .ty _, hd.ty, kInt d, q'⟩) (fun _ Q' q' => ⟨_, rfl, _, _, _, _, _, rfl, .ty _, hd.ty, kBool d, ?_⟩) ?_
    · exact ⟨_, rfl, q'⟩
    · have e : (isIntD d && !isBoolD d) = wholeD d := by cases d <;> rfl
      rw [e]
      exact k
end
end KP
set_option Elab.async false
set_option maxRecDepth 100000
set_option maxHeartbeats 4000000
set_option linter.all false
/-! Ours: dealt, and its two ends. -/
namespace KP
open PySem PySem.Spec PyProof.Rows L2 Gr GxR
/-- what is asked of an own exception class without words -/
structure ExcF (K : PySem.W.Frag) (mg : Str → Option Value) (n : Str) (C : Addr) : Prop where
  g : mg n = some (.ref C)
  x : PySem.W.excIn K C [.type "ValueError", .type "Exception", .type "BaseException", .type "object"] "ValueError.__new__" = true
  k : PySem.W.keepIn K (.ref C) = true
  b : PySem.W.subIn K (.ref C) (.type "BaseException") = some true
  t : PySem.W.typeIn K (.ref C) = some (.type "type")
  e : PySem.W.exmOne K (.ref C) (.ref C) = some true
theorem FunC.okX {P : Program} {w : World} {K : PySem.W.Frag} {mg : Str → Option Value} {base : Heap} {x ql : Str} {st : Stmt} {f c : Addr} {fd : FuncData} {N ps : List Str} {k : Nat} {sp : Sp} (F : FunC K x ql st f fd c) (S : FnScope N ps (defScope st)) (len : ∀ vs H Q E, sp vs H Q E → vs.length = ps.length)
    (hb : ∀ (A : Around) (outer : List Env) (s : Shared) (H : Hp) (vs : List V) (Q : VK) (E : XK), Room k (A.deeper (envOfC ql (defScope st) s.heap.objs.size f (.ref c))) → sp vs H Q E →
      ∃ t, PSs (cxOf (L2.CX P w) P w K mg base N ql (defScope st) f (.ref c) A outer s H E) (defBody st) t ∧ t { nx := fun _ H' => Q .non H', rt := Q } (start N vs) H) : FnOk P w K mg base (L2.CX P w) (k + 1) f fd ps sp := by
  obtain ⟨oc, od, kV, doc, pm, an, ct, osl, rfl, lk, hcd⟩ := F.ex
  exact fn_of lk hcd S len fun A outer s H vs Q E hr hsp => hb A outer s H vs Q E hr hsp
def tooB (n D : Int) (p : Int × Int) : Bool := decide (p.1 < n) || decide (12 < p.2 + D)
def tooD : List PyData → PyData × PyData → Bool
  | [.int n, .int D], (.int mo, .int wi) => tooB n D (mo, wi)
  | _, _ => false
def domT (fd : List PyData) (q : PyData × PyData) : Prop := ∃ (n D : Int) (p : Int × Int), fd = [.int n, .int D] ∧ q = inD p
def dealP (ps : List (Int × Int)) (n D : Int) : List (List (Int × Int)) := (List.range n.toNat).map fun i => shareP ps n D (i : Nat)
def spDealt (L : List Addr) (C : Addr) : Sp := fun vs H Q E => ∃ (sv : V) (n D : Int) (ps : List (Int × Int)), vs = [sv, .int n, .int D] ∧ Od H sv (limP ps) ∧ Lm ps ∧ 1 ≤ n ∧ n ≤ 6 ∧ 0 ≤ D ∧ D ≤ 24 ∧ Tb L H ∧
  (ps.any (tooB n D) = false → ∀ z H', UpL L H H' → Od H' z (.tuple ((dealP ps n D).map limP)) → Q z H') ∧ (ps.any (tooB n D) = true → ∀ H', UpL L H H' → E (.ref C) none H')
section
variable {P : Program} {w : World} {K : PySem.W.Frag} {mg : Str → Option Value} {base : Heap} {C : Addr}
theorem sc_dealt : FnScope ["shared", "many", "late", "crawler"] ["shared", "many", "late"] (defScope s_dealt) := ⟨rfl, rfl, rfl, by decide +kernel, rfl, by decide +kernel, by decide +kernel⟩
theorem ok_dealt (T : D K mg) (TB : Tabs base T) (B : ExcF K mg "NoShare" C) : FnOk P w K mg base (L2.CX P w) 7 T.f_dealt T.d_dealt ["shared", "many", "late"] (spDealt (tabs T) C) := by
  refine T.V_dealt.okX sc_dealt (fun vs H Q E h => ?_) (fun A outer s H vs Q E hr h => ?_)
  · obtain ⟨sv, n, D, ps, rfl, _⟩ := h
    rfl
  · obtain ⟨sv, n, D, ps, rfl, hS, hg, n1, n6, d0, d1, hT, k1, k2⟩ := h
    have nd := sc_dealt.nd
    have mz : 5000 ≤ sizeLine := by decide
    refine ⟨_, pss_cons (ps_expr (pe_call (ok_chk T TB) hr rfl T.g_check_limits T.U_check_limits.kp T.b_check_limits .nil pass0 (pa_cons (pv 0) pa_nil)))
      (pss_cons (ps_expr (pe_call (ok_ckb T) (hr.mono (by decide)) rfl T.g_check_between T.U_check_between.kp T.b_check_between .nil pass0 (pa_cons (pv 1) (pa_cons pe_int (pa_cons (pe_glob (v := .int 6) rfl T.g_MOST_PARTS ⟨_, rfl⟩) pa_nil)))))
      (pss_cons (ps_expr (pe_call (ok_ckb T) (hr.mono (by decide)) rfl T.g_check_between T.U_check_between.kp T.b_check_between .nil pass0 (pa_cons (pv 2) (pa_cons pe_int (pa_cons (pe_glob (v := .int 24) rfl T.g_LATEST ⟨_, rfl⟩) pa_nil)))))
      (pss_cons (ps_if (pt_val (pe_anyTF (xs := ["many", "late"]) (is := [1, 2]) (dom := domT) (pb := tooD) (k := 1) (hr.mono (by decide)) (by rfl) T.any TB.e rfl
          ⟨rfl, rfl, by decide +kernel, by rfl, by rfl, by rfl, by decide, ?_, .cons rfl (by rfl) (by decide +kernel) (.cons rfl (by rfl) (by decide +kernel) .nil)⟩ (pv 0)
          (fun en m h0 va vb q fd hsc Cx hma hmb ra rb hf hd => ?_) (fun _ => rfl)))
        (pss_one (ps_raise rfl (takes_of rfl rfl rfl rfl) (pmk_exc0 PySem.F.excBase_ValueError B.x B.g B.k (raises_own B.b B.t) rfl)))
        (pss_nil))
      (pss_one (ps_ret (pe_callTy call_tuple_of (by rfl) T.tuple (by decide +kernel) (pa_cons (pe_lc (own := [("crawler", 3)]) (g := gName 3) (tt := tYes) rfl nd (pi_range1 rfl T.range (pa_cons (pv 1) pa_nil)) (blkOk_by (N := ["shared", "many", "late", "crawler"]) (sc := defScope s_dealt) (by decide +kernel)) (fun _ _ _ _ _ => pg_name (i := 3) nd rfl (.inl rfl)) (fun _ _ _ _ _ => pts_nil) (fun _ _ _ _ _ => pe_call (ok_share T) (hr.mono (by decide)) rfl T.g_share_of T.U_share_of.kp T.b_share_of .nil pass0 (pa_cons (pv 0) (pa_cons (pv 1) (pa_cons (pv 2) (pa_cons (pv 3) pa_nil)))))) pa_nil))))))), ?_⟩
    · intro y hy e
      simp only [List.mem_cons, List.not_mem_nil, or_false] at hy
      rcases hy with rfl | rfl | rfl | rfl | rfl | rfl
      · cases e
      · cases e
      · cases e
      · exact ⟨_, rfl⟩
      · exact ⟨_, rfl⟩
      · cases e
    · obtain ⟨n', D', p, rfl, rfl⟩ := hd
      cases hf with
      | cons c1 i1 r1 z1 hf =>
        cases hf with
        | cons c2 i2 r2 z2 _ =>
          have e : tooD [.int n', .int D'] (inD p) = (decide (p.1 < n') || decide (12 < p.2 + D')) := rfl
          rw [e]
          have nmany : ∀ {pos : Pos}, QE P w base h0 1 en m (.Name "many" pos) (.int n') := fun {pos} => qe_free Cx (by rw [hsc]; decide +kernel) c1 i1 r1
          have nlate : ∀ {pos : Pos}, QE P w base h0 1 en m (.Name "late" pos) (.int D') := fun {pos} => qe_free Cx (by rw [hsc]; decide +kernel) c2 i2 r2
          have nmost : ∀ {pos : Pos}, QE P w base h0 1 en m (.Name "most" pos) (.int p.1) := fun {pos} => qe_name Cx (by rw [hsc]; decide +kernel) hma ra
          have nwide : ∀ {pos : Pos}, QE P w base h0 1 en m (.Name "wide" pos) (.int p.2) := fun {pos} => qe_name Cx (by rw [hsc]; decide +kernel) hmb rb
          refine qe_or (qe_lt nmost nmany) (fun hf => qe_one ?_)
          exact qe_gt (qe_add nwide nlate) (qe_gint Cx (by rw [hsc]; decide +kernel) T.g_WIDEST)
    · refine ⟨_, rfl, sv, _, rfl, hS, lims_good hg.1 hg.2, hT, fun H1 u1 => ?_⟩
      have st1 := u1.stay hT
      refine ⟨_, rfl, n, 1, 6, rfl, n1, n6, ?_⟩
      refine ⟨_, rfl, D, 0, 24, rfl, d0, d1, ?_⟩
      have hS1 := hS.stay st1
      refine ⟨_, rfl, ps.map inD, [.int n, .int D], hS1.dq, .cons rfl (.int n) (.cons rfl (.int D) .nil), fun q hq => ?_, u1.1 _ (by simp [tabs]), fun H2 t2 => ⟨_, rfl, ?_⟩⟩
      · obtain ⟨p, hp, rfl⟩ := List.mem_map.mp hq
        exact ⟨n, D, p, rfl, rfl⟩
      have u2 := u1.trans (.tab u1.1 t2 (by simp [tabs]))
      have st2 := u2.stay hT
      have e : (ps.map inD).any (tooD [.int n, .int D]) = ps.any (tooB n D) := by
        rw [List.any_map]
        rfl
      rw [e]
      cases hb : ps.any (tooB n D) with
      | true => exact iteT (k2 hb H2 u2)
      | false =>
        refine iteF (next_of ?_)
        dsimp only
        have hS2 := hS.stay st2
        refine ⟨_, rfl, n, rfl, by omega, by omega, fun Dn hDn => lc_range (n := _) (fun i Hx => Same H2 Hx ∧ (∃ us, Hx Dn = some (.lst us) ∧ us.length = i) ∧ LstT Hx Dn ((((List.range i).map fun j => shareP ps n D (j : Nat)).map limP))) ⟨same_upd hDn, ⟨[], upd_same, rfl⟩, LstT.at upd_same⟩ ?_ ?_⟩
        · rintro i Hx hi ⟨sx, ⟨us, eu, lu⟩, lt⟩
          refine ⟨wipe1, ?_⟩
          unfold tYes
          dsimp only
          rw [if_pos rfl]
          rw [Int.zero_add]
          have hi6 : i < 6 := by omega
          refine ⟨_, rfl, _, rfl, _, rfl, _, rfl, sv, n, D, (i : Nat), ps, rfl, hS2.same sx, hg, n1, n6, fun z H3 s3 oz => ?_⟩
          refine ⟨us, s3 _ _ eu, by omega, same_into hDn (sx.trans s3), ⟨_, upd_same, by rw [List.length_append, lu]; rfl⟩, ?_⟩
          rw [List.range_succ, List.map_append, List.map_append]
          exact (lt.same s3).put (s3 _ _ eu) oz (tup_lim _)
        · rintro Hx ⟨sx, ⟨us, eu, lu⟩, lt⟩
          refine ⟨Dn, us, rfl, .inl ⟨SqL.of eu, fun R hR => ?_⟩⟩
          refine k1 hb _ _ (u2.trans (.same u2.1 (sx.trans (same_upd hR)))) ?_
          have := lt.tup eu hR
          unfold dealP
          exact this
end
end KP
set_option Elab.async false
set_option maxRecDepth 100000
set_option maxHeartbeats 4000000
set_option linter.all false
/-! Ours: all but the well and the tables; what is dealt, small and right. -/
namespace KP
open PySem PySem.Spec PyProof.Rows L2 Gr GxR
section
variable {K : PySem.W.Frag} {mg : Str → Option Value} {T : D K mg} {p : Addr} {H H1 H2 : Hp}
/-- a list that was new is put anew -/
theorem Mv.put {D : Addr} {xs ys : List V} (m : Mv T p H H1) (n : H D = none) (e : H1 D = some (.lst xs)) (nd : D ≠ p) : Mv T p H (upd H1 D (.lst ys)) := by
  refine ⟨fun b o x y z => (upd_ne (ne_of_none x n)).trans (m.1 b o x y z), ?_, fun q hq => ?_⟩
  · obtain ⟨x1, x2, x3, w⟩ := m.2.1
    exact ⟨x1, x2, x3, (upd_ne (Ne.symm nd)).trans w⟩
  · obtain ⟨qs, w, tt⟩ := m.2.2 q hq
    refine ⟨qs, (upd_ne fun y => ?_).trans w, tt⟩
    rw [y, e] at w
    cases w
theorem Mv.lst {D : Addr} {xs : List V} (m : Mv T p H H1) (e : H D = some (.lst xs)) (nd : D ≠ p) : H1 D = some (.lst xs) := m.1 _ _ e nd fun _ q => nomatch q
end
theorem mv_ts {K : PySem.W.Frag} {mg : Str → Option Value} {T : D K mg} {p : Addr} {H H1 : Hp} (w : Well H p) (m : Mv T p H H1) : TupStay H H1 := fun a xs e => m.1 a _ e (fun z => by
  obtain ⟨_, _, _, ew⟩ := w
  rw [z, ew] at e
  cases e) fun _ q => nomatch q
theorem but_ts {p : Addr} {H H1 : Hp} (w : Well H p) (b : But H H1 p) : TupStay H H1 := by
  obtain ⟨_, _, _, e⟩ := w
  exact ts_but e b
theorem small_pair {q : Int × Int} (h : 0 ≤ q.1 ∧ q.1 ≤ 100 ∧ 0 ≤ q.2 ∧ q.2 ≤ 100) : SmallD 4 29 (tw (inD q)) := (small_tup (k := 2) (s := 11) fun d hd => by
  simp only [inD, List.mem_cons, List.not_mem_nil, or_false] at hd
  rcases hd with rfl | rfl
  · exact small_int (by omega) (by omega)
  · exact small_int (by omega) (by omega)).mono (by decide) (by show (11 + 2) * 2 + 3 ≤ 29; decide)
theorem small_lim {ps : List (Int × Int)} (g : Lm ps) : SmallD 6 127 (limP ps) := by
  have h := small_tup (k := 4) (s := 29) (ds := (ps.map inD).map tw) fun d hd => by
    obtain ⟨q, hq, rfl⟩ := List.mem_map.mp hd
    obtain ⟨p, hp, rfl⟩ := List.mem_map.mp hq
    have := g.2 p hp
    exact small_pair (by omega)
  refine h.mono (by decide) ?_
  rw [List.length_map, List.length_map]
  have := g.1
  omega
theorem no_too {ps : List (Int × Int)} {n D : Int} (h : ps.any (tooB n D) = false) {p : Int × Int} (hp : p ∈ ps) : n ≤ p.1 ∧ p.2 + D ≤ 12 := by
  have := List.any_eq_false.mp h p hp
  unfold tooB at this
  rw [Bool.or_eq_true, decide_eq_true_eq, decide_eq_true_eq] at this
  omega
theorem share_lm {ps : List (Int × Int)} (g : Lm ps) {n D : Int} (n1 : 1 ≤ n) (d0 : 0 ≤ D) (h : ps.any (tooB n D) = false) (i : Nat) : Lm (shareP ps n D (i : Nat)) := by
  refine ⟨by unfold shareP; rw [List.length_map]; exact g.1, fun q hq => ?_⟩
  obtain ⟨p, hp, rfl⟩ := List.mem_map.mp hq
  obtain ⟨a, b⟩ := no_too h hp
  have c := g.2 p hp
  have e1 : 1 ≤ p.1 / n := (Int.le_ediv_iff_mul_le (by omega)).mpr (by omega)
  have e2 : p.1 / n ≤ p.1 := Int.ediv_le_self n (by omega)
  have e3 : p.1 / n + (if ((i : Nat) : Int) < p.1 % n then 1 else 0) ≤ 6 := by
    by_cases z : n = 1
    · subst z
      rw [Int.emod_one, if_neg (by omega)]
      omega
    · have : p.1 / n ≤ p.1 / 2 := by
        have e4 : (p.1 / n) * n ≤ p.1 := Int.ediv_mul_le p.1 (by omega)
        have e5 : (p.1 / n) * 2 ≤ (p.1 / n) * n := Int.mul_le_mul_of_nonneg_left (by omega) (by omega)
        omega
      split <;> omega
  show 1 ≤ p.1 / n + (if ((i : Nat) : Int) < p.1 % n then 1 else 0) ∧ p.1 / n + (if ((i : Nat) : Int) < p.1 % n then 1 else 0) ≤ 6 ∧ 1 ≤ p.2 + D ∧ p.2 + D ≤ 12
  refine ⟨?_, e3, by omega, by omega⟩
  split <;> omega
theorem deal_lm {ps : List (Int × Int)} (g : Lm ps) {n D : Int} (n1 : 1 ≤ n) (d0 : 0 ≤ D) (h : ps.any (tooB n D) = false) : ∀ l ∈ dealP ps n D, Lm l := fun l hl => by
  obtain ⟨i, _, rfl⟩ := List.mem_map.mp hl
  exact share_lm g n1 d0 h i
/-- what is dealt keeps the shared limits -/
theorem keep_deal {ps : List (Int × Int)} (g : Lm ps) {n D : Int} (n1 : 1 ≤ n) (d0 : 0 ≤ D) (h : ps.any (tooB n D) = false) : keepB ((dealP ps n D).map fun l => (l, D)) ps = true := List.all_eq_true.mpr fun q hq => by
  obtain ⟨m, rfl⟩ := Int.eq_ofNat_of_zero_le (show 0 ≤ n by omega)
  unfold pairB
  have e1 : (((dealP ps (m : Nat) D).map fun l => (l, D)).any fun c => c.1.isEmpty) = false := List.any_eq_false.mpr fun c hc => by
    obtain ⟨l, hl, rfl⟩ := List.mem_map.mp hc
    obtain ⟨i, _, rfl⟩ := List.mem_map.mp hl
    have := share_mem hq (m : Nat) D i
    cases hs : shareP ps (m : Nat) D (i : Nat) with
    | nil => rw [hs] at this; cases this
    | cons a l => simp
  rw [e1, Bool.not_false, Bool.true_and]
  refine decide_eq_true ?_
  have e2 : (((dealP ps (m : Nat) D).map fun l => (l, D)).map fun c => ((mw c.1 (q.2 + c.2) : Nat) : Int)) = (List.range m).map fun i => ((mw (shareP ps (m : Nat) D (i : Nat)) (q.2 + D) : Nat) : Int) := by
    unfold dealP
    rw [List.map_map, List.map_map, Int.toNat_natCast]
    rfl
  rw [e2]
  have e3 := part_sum (p := q) (n := m) (by omega)
  rw [← e3]
  exact sum_mono fun i hi => mw_part hq (share_lm g n1 d0 h i) (by have := g.2 q hq; omega)
end KP
set_option Elab.async false
set_option maxRecDepth 100000
set_option maxHeartbeats 4000000
set_option linter.all false
/-! Ours: the greatest number of crawlers alike. -/
namespace KP
open PySem PySem.Spec PyProof.Rows L2 Gr GxR
def spMC (L : List Addr) : Sp := fun vs H Q _ => ∃ (lv sv : V) (D : Int) (ls ps : List (Int × Int)), vs = [lv, .int D, sv] ∧ Od H lv (limP ls) ∧ Lm ls ∧ 0 ≤ D ∧ D ≤ 24 ∧ Od H sv (limP ps) ∧ Lm ps ∧ Tb L H ∧
  (ps = [] → ∀ H', UpL L H H' → Q .non H') ∧ (ps ≠ [] → ls = [] → ∀ H', UpL L H H' → Q (.int 0) H') ∧
  (ps ≠ [] → ls ≠ [] → ∀ m H', m ∈ (ps.map fun p => p.1 / ((mw ls (p.2 + D) : Nat) : Int)) → (∀ y ∈ (ps.map fun p => p.1 / ((mw ls (p.2 + D) : Nat) : Int)), m ≤ y) → UpL L H H' → Q (.int m) H')
section
variable {P : Program} {w : World} {K : PySem.W.Frag} {mg : Str → Option Value} {base : Heap}
theorem sc_mc : FnScope ["limits", "late", "shared", "most", "wide"] ["limits", "late", "shared"] (defScope s_most_crawlers) := ⟨rfl, rfl, rfl, by decide +kernel, rfl, by decide +kernel, by decide +kernel⟩
theorem ok_mc (T : D K mg) (TB : Tabs base T) : FnOk P w K mg base CX0 8 T.f_most_crawlers T.d_most_crawlers ["limits", "late", "shared"] (spMC (tabs T)) := by
  refine T.U_most_crawlers.ok sc_mc (fun vs H Q E h => ?_) (fun cdv A outer s H vs Q E hr h => ?_)
  · obtain ⟨lv, sv, D, ls, ps, rfl, _⟩ := h
    rfl
  · obtain ⟨lv, sv, D, ms, ps, rfl, hL, gL, d0, d1, hS, gS, hT, k1, k2, k3⟩ := h
    have nd := sc_mc.nd
    have mz : 5000 ≤ sizeLine := by decide
    refine ⟨_, pss_cons (ps_expr (pe_call (ok_chk T TB) (hr.mono (by decide)) rfl T.g_check_limits T.U_check_limits.kp T.b_check_limits .nil pass0 (pa_cons (pv 0) pa_nil)))
      (pss_cons (ps_expr (pe_call (ok_ckb T) (hr.mono (by decide)) rfl T.g_check_between T.U_check_between.kp T.b_check_between .nil pass0 (pa_cons (pv 1) (pa_cons pe_int (pa_cons (pe_glob (v := .int 24) rfl T.g_LATEST ⟨_, rfl⟩) pa_nil)))))
      (pss_cons (ps_expr (pe_call (ok_chk T TB) (hr.mono (by decide)) rfl T.g_check_limits T.U_check_limits.kp T.b_check_limits .nil pass0 (pa_cons (pv 2) pa_nil)))
      (pss_cons (ps_if (pt_not (pt_truth (pv 2) (fun _ => rfl)))
        (pss_one (ps_ret pe_non))
        (pss_nil))
      (pss_cons (ps_if (pt_not (pt_truth (pv 0) (fun _ => rfl)))
        (pss_one (ps_ret pe_int))
        (pss_nil))
      (pss_one (ps_ret (pe_callB (cr_min rfl) (by rfl) T.min (by decide +kernel) (pa_cons (pe_lc (own := [("most", 3), ("wide", 4)]) (g := gTup _ 2 (gCons (gName 3) (gCons (gName 4) gNil))) (tt := tYes) rfl nd (pi_tup (pv 2)) (blkOk_by (N := ["limits", "late", "shared", "most", "wide"]) (sc := defScope s_most_crawlers) (by decide +kernel)) (fun _ _ _ _ _ => pg_tup rfl (pgs_cons (pg_name (i := 3) nd rfl (.inl rfl)) (pgs_cons (pg_name (i := 4) nd rfl (.inl rfl)) pgs_nil))) (fun _ _ _ _ _ => pts_nil) (fun _ _ _ _ _ => pe_op op_fdivN (pv 3) (pe_call (ok_mostw T) (hr.mono (by decide)) rfl T.g_most_within T.U_most_within.kp T.b_most_within .nil pass0 (pa_cons (pv 0) (pa_cons (pe_op op_add (pv 4) (pv 1)) pa_nil))))) pa_nil)))))))), ?_⟩
    refine ⟨_, rfl, lv, _, rfl, hL, lims_good gL.1 gL.2, hT, fun H1 u1 => ?_⟩
    have st1 := u1.stay hT
    refine ⟨_, rfl, D, 0, 24, rfl, d0, d1, ?_⟩
    refine ⟨_, rfl, sv, _, rfl, hS.stay st1, lims_good gS.1 gS.2, u1.1, fun H2 u2' => ?_⟩
    have u2 := u1.trans u2'
    have st2 := u2.stay hT
    replace hL := hL.stay st2
    replace hS := hS.stay st2
    obtain ⟨la, ls, rfl, el, ol⟩ := od_tup hL
    obtain ⟨sa, ss, rfl, es, os⟩ := od_tup hS
    have lls : ls.length = ms.length := by rw [ol.len, List.length_map, List.length_map]
    have lss : ss.length = ps.length := by rw [os.len, List.length_map, List.length_map]
    refine ⟨_, rfl, !ss.isEmpty, .inr (.inl ⟨_, SqT.of es, rfl⟩), ?_⟩
    by_cases z1 : ps = []
    · have e : ss = [] := List.eq_nil_of_length_eq_zero (by rw [lss, z1]; rfl)
      rw [e]
      exact iteT (k1 z1 H2 u2)
    · have e : ss.isEmpty = false := by
        cases hss : ss with
        | nil => exact absurd (List.eq_nil_of_length_eq_zero (by rw [← lss, hss]; rfl)) z1
        | cons a l => rfl
      rw [e]
      refine iteF (next_of ?_)
      dsimp only
      refine ⟨_, rfl, !ls.isEmpty, .inr (.inl ⟨_, SqT.of el, rfl⟩), ?_⟩
      by_cases z2 : ms = []
      · have e : ls = [] := List.eq_nil_of_length_eq_zero (by rw [lls, z2]; rfl)
        rw [e]
        exact iteT (k2 z1 z2 H2 u2)
      · have e : ls.isEmpty = false := by
          cases hls : ls with
          | nil => exact absurd (List.eq_nil_of_length_eq_zero (by rw [← lls, hls]; rfl)) z2
          | cons a l => rfl
        rw [e]
        refine iteF (next_of ?_)
        dsimp only
        refine ⟨_, rfl, sa, rfl, ⟨_, SqT.of es⟩, fun Dn hDn => lc_tup (K := K) (a := sa) (xs := ss) (fun i Hx => Same H2 Hx ∧ Hx Dn = some (.lst (((ps.take i).map fun p => p.1 / ((mw ms (p.2 + D) : Nat) : Int)).map V.int))) ⟨same_upd hDn, upd_same⟩ (fun i Hx _ z => SqT.of (z.1 _ _ es)) ?_ ?_⟩
        · rintro i x Hx hx ⟨sx, ex⟩
          obtain ⟨q, b, hqm, rfl, eb⟩ := pair_at os hx
          have hq := gS.2 q (List.mem_of_getElem? hqm)
          refine ⟨b, _, rfl, SqT.of (sx _ _ eb), rfl, _, _, rfl, _, _, rfl, rfl, rfl, ?_⟩
          unfold tYes
          dsimp only
          rw [if_pos rfl]
          refine ⟨_, rfl, _, rfl, _, rfl, _, rfl, _, _, rfl, rfl, _, q.2 + D, ms, rfl, hL.same sx, gL.1, gL.c, by omega, fun v H6 hv s6 => ?_⟩
          rcases hv with ⟨e, _⟩ | ⟨_, n, rfl, hm⟩
          · exact absurd e z2
          · have hn := mw_pos z2 (fun p hp => (gL.2 p hp).1) (by omega) hm
            have hn2 : n ≤ 606 := by
              obtain ⟨ts, a1, a2, a3, _⟩ := hm
              have := row_short z2 gL.c a1 a3 (by omega)
              omega
            refine ⟨q.1, (n : Nat), rfl, rfl, ⟨by omega, by omega⟩, ?_⟩
            dsimp only
            rw [Int.fdiv_eq_ediv_of_nonneg _ (by omega)]
            refine ⟨_, s6 _ _ ex, by rw [List.length_map, List.length_map, List.length_take]; have := gS.1; omega, same_into hDn (sx.trans s6), ?_⟩
            rw [upd_same, List.take_add_one, hqm, List.map_append, List.map_append, ← mw_of hm]
            rfl
        · rintro Hx ⟨sx, ex⟩
          rw [lss, List.take_length] at ex
          refine ⟨Dn, _, rfl, SqL.of ex, by rw [List.length_map]; exact List.length_pos_iff.mpr z1, fun m hm hle => ?_⟩
          exact k3 z1 z2 m Hx hm hle (u2.trans (.same u2.1 sx))
end
end KP
set_option Elab.async false
set_option maxRecDepth 100000
set_option maxHeartbeats 4000000
set_option linter.all false
/-! Ours: rows formed; what comes of rows. -/
namespace KP
open PySem PySem.Spec PyProof.Rows L2 Gr GxR
def spFormed3 : Sp := fun vs H Q _ => ∃ (lv rv : V) (ps : List (Int × Int)) (D : Int) (qs : List (Int × Int)), vs = [lv, .int D, rv] ∧ Od H lv (limP ps) ∧ PartOk (ps, D) ∧ Od H rv (limP qs) ∧ RowOk (ps, D) qs ∧ ∀ H', Same H H' → Q (.bl true) H'
def spComeL : Sp := fun vs H Q _ => ∃ (lv : V) (rows : List (List (Int × Int))), vs = [lv] ∧ Od H lv (.list (rows.map limP)) ∧ rows.length ≤ 6 ∧ (∀ qs ∈ rows, qs.length ≤ 200) ∧ ∀ z ms H', Same H H' → IsI H' z ms → ms.Perm (comeL rows) → ms.Pairwise (· ≤ ·) → Q z H'
theorem od_lst {H : Hp} {v : V} {ds : List PyData} (h : Od H v (.list ds)) : ∃ a xs, v = .ref a ∧ H a = some (.lst xs) ∧ OdAll H xs ds := by
  cases h with
  | lst e o => exact ⟨_, _, rfl, e, o⟩
section
variable {P : Program} {w : World} {K : PySem.W.Frag} {mg : Str → Option Value} {base : Heap}
theorem sc_formed : FnScope ["_law_pairs", "_law_delay", "_law_row", "_law_last", "_law_pair", "_law_asked_here"] ["_law_pairs", "_law_delay", "_law_row"] (defScope s_l_row_formed) := ⟨rfl, rfl, rfl, by decide +kernel, rfl, by decide +kernel, by decide +kernel⟩
theorem ok_formed (T : D K mg) : FnOk P w K mg base CX0 3 T.f_l_row_formed T.d_l_row_formed ["_law_pairs", "_law_delay", "_law_row"] spFormed3 := by
  refine T.U_l_row_formed.ok sc_formed (fun vs H Q E h => ?_) (fun cdv A outer s H vs Q E hr h => ?_)
  · obtain ⟨lv, rv, ps, D, qs, rfl, _⟩ := h
    rfl
  · obtain ⟨lv, rv, ps, D, qs, rfl, o1, hc, hR, ro, k⟩ := h
    have nd := sc_formed.nd
    have mz : 5000 ≤ sizeLine := by decide
    refine ⟨_, pss_cons (ps_if (PW.pt (pw_or (pt_not (pt_val (pe_callB call_isi (by rfl) T.isinstance (by decide +kernel) (pa_cons (pv 2) (pa_cons (pe_bltn (v := .ty "tuple") (by rfl) T.tuple (by decide +kernel) rfl) pa_nil))))) (pw_or1 (pt_cmpR op_gt (pe_callB call_len_seq (by rfl) T.len PySem.boot_len (pa_cons (pv 2) pa_nil)) pe_int (nomark _)))))
        (pss_one (ps_ret pe_bl))
        (pss_nil))
      (pss_cons (ps_set (i := 3) nd rfl (.inl rfl) pe_int)
      (pss_cons (ps_for PassesOwn.never rfl (pi_tup (pv 2)) (pg_name (i := 4) nd rfl (.inl rfl))
        (pss_cons (ps_if (PW.pt (pw_or (pt_not (pt_val (pe_callB call_isi (by rfl) T.isinstance (by decide +kernel) (pa_cons (pv 4) (pa_cons (pe_bltn (v := .ty "tuple") (by rfl) T.tuple (by decide +kernel) rfl) pa_nil))))) (pw_or (pt_cmpR op_ne (pe_callB call_len_seq (by rfl) T.len PySem.boot_len (pa_cons (pv 4) pa_nil)) pe_int (nomark _)) (pw_or (pt_not (pt_val (pe_call (ok_lwhole T) (hr.mono (by decide)) rfl T.g_l_is_whole T.U_l_is_whole.kp T.b_l_is_whole .nil pass0 (pa_cons (pe_ix ix_tup (pv 4) pe_int (fun _ _ => rfl)) pa_nil)))) (pw_or1 (pt_not (pt_val (pe_call (ok_lwhole T) (hr.mono (by decide)) rfl T.g_l_is_whole T.U_l_is_whole.kp T.b_l_is_whole .nil pass0 (pa_cons (pe_ix ix_tup (pv 4) pe_int (fun _ _ => rfl)) pa_nil)))))))))
          (pss_one (ps_ret pe_bl))
          (pss_nil))
        (pss_cons (ps_if (PW.pt (pw_or (pt_cmpR op_lt (pe_ix ix_tup (pv 4) pe_int (fun _ _ => rfl)) pe_int (nomark _)) (pw_or1 (pt_not (pt_chain op_le op_le (pe_callB (call_max2 rfl) (by rfl) T.max boot_max (pa_cons (pe_ix ix_tup (pv 4) pe_int (fun _ _ => rfl)) (pa_cons (pv 3) pa_nil))) (pe_ix ix_tup (pv 4) pe_int (fun _ _ => rfl)) (pe_op op_add (pe_ix ix_tup (pv 4) pe_int (fun _ _ => rfl)) (pv 1)))))))
          (pss_one (ps_ret pe_bl))
          (pss_nil))
        (pss_one (ps_set (i := 3) nd rfl (.inl rfl) (pe_ix ix_tup (pv 4) pe_int (fun _ _ => rfl)))))))
      (pss_cons (ps_setLc (i := 5) (own := [("_law_pair", 4)]) (g := gName 4) (tt := tYes) rfl nd rfl rfl (sw_true rfl rfl rfl (by decide +kernel)) (pi_tup (pv 2)) (blkOk_by (N := ["_law_pairs", "_law_delay", "_law_row", "_law_last", "_law_pair", "_law_asked_here"]) (sc := defScope s_l_row_formed) (by decide +kernel)) (fun _ _ _ _ _ => pg_name (i := 4) nd rfl (.inl rfl)) (fun _ _ _ _ _ => pts_nil) (fun _ _ _ _ _ => pe_ix ix_tupB (pv 4) pe_int (fun _ _ => rfl)))
      (pss_one (ps_ret (pe_and (pe_cmpR (op_eqD hr.units) (pv 5) (pe_callB cr_sortedI (by rfl) T.sorted (by decide +kernel) (pa_cons (pv 5) pa_nil)) (nomark _)) (pe_one (pe_cmpR op_isN (pe_call (ok_lwatL T) hr rfl T.g_l_wrong_at T.U_l_wrong_at.kp T.b_l_wrong_at .nil pass0 (pa_cons (pv 0) (pa_cons (pe_tup (pa_cons pe_int pa_nil)) (pa_cons (pv 5) pa_nil)))) pe_non (nomark _))))))))), ?_⟩
    obtain ⟨ra, rxs, rfl, er, oR⟩ := od_tup hR
    have lrx : rxs.length = qs.length := by rw [oR.len, List.length_map, List.length_map]
    have hl := ro.len
    refine ⟨_, rfl, _, _, _, _, _, rfl, .ty _, hR.ty, kTup _, _, rfl, iteF ⟨_, rfl, ra, _, rfl, .inr (SqT.of er), _, _, rfl, rfl, _, rfl, ite2 (fun h => absurd (of_decide_eq_true h) (by omega)) (fun _ => next_of ?_)⟩⟩
    dsimp only
    refine gn ?_
    dsimp only
    refine ⟨_, rfl, ra, rfl, ⟨_, SqT.of er⟩, for_tup (K := K) (a := ra) (xs := rxs) (fun j σ H5 => Same H H5 ∧ ∃ (m : Int) (v3 : Option V), asc m ((qs.drop j).map (·.2)) ∧ (j = qs.length ∨ True) ∧ σ = [some lv, some (.int D), some (.ref ra), some (.int m), v3, none]) ⟨.refl _, 0, none, ro.come, .inr trivial, rfl⟩ (fun j σ H5 _ q => SqT.of (q.1 _ _ er)) ?_ ?_⟩
    · rintro j x σ H5 hx ⟨s5, m, v3, ha, _, rfl⟩
      obtain ⟨q, b, hqm, rfl, eb⟩ := pair_at oR hx
      obtain ⟨hj, hje⟩ := List.getElem?_eq_some_iff.mp hqm
      have hq := ro.late q (List.mem_of_getElem? hqm)
      rw [List.drop_eq_getElem_cons hj, hje, List.map_cons] at ha
      have eb5 := s5 _ _ eb
      have ob : Od H5 (.ref b) (tw (inD q)) := .tup eb5 (.cons (.int _) (.cons (.int _) .nil))
      have q0 : 0 ≤ q.1 := by
        have a := ro.asked
        have pw := asc_srt a
        have : q.1 ∈ qs.map (·.1) := List.mem_map.mpr ⟨q, List.mem_of_getElem? hqm, rfl⟩
        exact asc_ge a _ this
      refine gn ?_
      dsimp only
      refine ⟨_, rfl, _, _, _, _, _, rfl, .ty _, ob.ty, kTup _, _, rfl, iteF ⟨_, rfl, b, _, rfl, .inr (SqT.of eb5), rfl, _, rfl, iteF ⟨_, rfl, b, _, 0, _, rfl, rfl, SqT.of eb5, rfl, _, .int q.1, rfl, .int _, _, rfl, iteF ⟨_, rfl, b, _, 1, _, rfl, rfl, SqT.of eb5, rfl, _, .int q.2, rfl, .int _, _, rfl, iteF (next_of ?_)⟩⟩⟩⟩
      dsimp only
      refine ⟨_, rfl, b, _, 0, _, rfl, rfl, SqT.of eb5, rfl, _, _, rfl, rfl, _, rfl, ite2 (fun h => absurd (of_decide_eq_true h) (by omega)) (fun _ => ?_)⟩
      refine ⟨_, rfl, b, _, 0, _, rfl, rfl, SqT.of eb5, rfl, _, rfl, _, _, rfl, _, rfl, b, _, 1, _, rfl, rfl, SqT.of eb5, rfl, _, _, rfl, rfl, _, rfl, ?_⟩
      have hm1 : (if m > q.1 then m else q.1) ≤ q.2 := by
        have := ha.1
        split <;> omega
      refine ite2 (fun _ => ?_) (fun h => absurd (decide_eq_true hm1) h)
      refine ⟨_, rfl, b, _, 0, _, rfl, rfl, SqT.of eb5, rfl, _, rfl, _, _, rfl, rfl, _, _, rfl, rfl, _, rfl, ?_⟩
      rw [decide_eq_true hq.2]
      refine iteF (next_of ?_)
      dsimp only
      exact ⟨_, rfl, b, _, 1, _, rfl, rfl, SqT.of eb5, rfl, s5, q.2, _, ha.2, .inr trivial, rfl⟩
    · rintro σ H5 ⟨s5, m, v3, ha, _, rfl⟩
      have er5 := s5 _ _ er
      have oR5 := oR.same s5
      refine ⟨_, rfl, ra, rfl, ⟨_, SqT.of er5⟩, fun D1 h1 => lc_tup (K := K) (a := ra) (xs := rxs) (fun i Hx => Same H5 Hx ∧ Hx D1 = some (.lst (((qs.take i).map (·.1)).map V.int))) ⟨same_upd h1, upd_same⟩ (fun i Hx _ z => SqT.of (z.1 _ _ er5)) ?_ ?_⟩
      · rintro i x Hx hx ⟨sx, ex⟩
        obtain ⟨q, b, hqm, rfl, eb⟩ := pair_at oR5 hx
        refine ⟨rfl, ?_⟩
        unfold tYes
        dsimp only
        rw [if_pos rfl]
        refine ⟨_, rfl, b, _, 0, _, rfl, rfl, SqT.of (sx _ _ eb), rfl, _, ex, by rw [List.length_map, List.length_map, List.length_take]; omega, same_into h1 sx, ?_⟩
        rw [upd_same, List.take_add_one, hqm, List.map_append, List.map_append]
        rfl
      · rintro Hx ⟨sx, ex⟩
        rw [lrx, List.take_length] at ex
        refine gn ?_
        dsimp only
        refine ⟨_, rfl, _, rfl, D1, _, rfl, SqL.of ex, fun ms p1 hperm hpw hp1 => ?_⟩
        have em : ms = qs.map (·.1) := hperm.eq_of_pairwise (fun a b _ _ h1 h2 => Int.le_antisymm h1 h2) hpw (pw_of (asc_srt ro.asked))
        subst em
        have s6 := same_upd (o := HO.lst ((qs.map (·.1)).map V.int)) hp1
        have e6 : upd Hx p1 (.lst ((qs.map (·.1)).map V.int)) p1 = some (.lst ((qs.map (·.1)).map V.int)) := upd_same
        have ex6 := s6 _ _ ex
        generalize upd Hx p1 (.lst ((qs.map (·.1)).map V.int)) = H6 at *
        refine ⟨_, _, .lst (SqL.of ex6) (dp_nums _), .lst (SqL.of e6) (dp_nums _), shaped_nums _, shaped_nums _, ?_⟩
        rw [eqv_nums]
        refine ⟨true, rfl, iteT ?_⟩
        have s06 := s5.trans (sx.trans s6)
        refine ⟨_, rfl, by show 1 ≤ sizeLine; omega, fun c1 hc1 => ?_⟩
        have s7 := same_upd (o := HO.tup [V.int 1]) hc1
        refine ⟨_, rfl, lv, .ref c1, D1, ps, [1], qs.map (·.1), rfl, o1.same (s06.trans s7), fun p hp => by have := hc.1.2 p hp; omega, .tup upd_same (.cons (.int 1) .nil), Nat.zero_lt_one, s7 _ _ ex6, asc_srt ro.asked, by rw [List.length_map]; omega, fun H8 s8 => ⟨rfl, ?_⟩⟩
        rw [first_none ro.pol]
        exact k H8 (s06.trans (s7.trans s8))
theorem sc_come : FnScope ["_law_lines", "_law_found", "_law_row", "_law_pair"] ["_law_lines"] (defScope s_l_come) := ⟨rfl, rfl, rfl, by decide +kernel, rfl, by decide +kernel, by decide +kernel⟩
theorem ok_come (T : D K mg) : FnOk P w K mg base CX0 1 T.f_l_come T.d_l_come ["_law_lines"] spCome := by
  refine T.U_l_come.ok sc_come (fun vs H Q E h => ?_) (fun cdv A outer s H vs Q E hr h => ?_)
  · obtain ⟨lv, rows, rfl, _⟩ := h
    rfl
  · obtain ⟨lv, rows, rfl, hL, l6, h200, k⟩ := h
    have nd := sc_come.nd
    have mz : 5000 ≤ sizeLine := by decide
    refine ⟨_, pss_cons (ps_set (i := 1) nd rfl (.inl rfl) (pe_lst pa_nil))
      (pss_cons (ps_for PassesOwn.never rfl (pi_tup (pv 0)) (pg_name (i := 2) nd rfl (.inl rfl))
        (pss_one (ps_expr (pe_bm PySem.F.plainAttrs_list PySem.F.slot_list_extend PySem.F.type_list_extend mt_extend (pv 1) (pa_cons (pe_lc (own := [("_law_pair", 3)]) (g := gName 3) (tt := tYes) rfl nd (pi_tup (pv 2)) (blkOk_by (N := ["_law_lines", "_law_found", "_law_row", "_law_pair"]) (sc := defScope s_l_come) (by decide +kernel)) (fun _ _ _ _ _ => pg_name (i := 3) nd rfl (.inl rfl)) (fun _ _ _ _ _ => pts_nil) (fun _ _ _ _ _ => pe_ix ix_tupB (pv 3) pe_int (fun _ _ => rfl))) pa_nil)))))
      (pss_one (ps_ret (pe_callTy call_tuple_of (by rfl) T.tuple (by decide +kernel) (pa_cons (pe_callB cr_sortedI (by rfl) T.sorted (by decide +kernel) (pa_cons (pv 1) pa_nil)) pa_nil))))), ?_⟩
    obtain ⟨la, ls, rfl, el, ol⟩ := od_tup hL
    have lls : ls.length = rows.length := by rw [ol.len, List.length_map]
    refine ⟨by show 0 ≤ sizeLine; omega, fun Dn hDn => gn ?_⟩
    have s0 := same_upd (o := HO.lst []) hDn
    dsimp only
    refine ⟨_, rfl, la, rfl, ⟨_, SqT.of (s0 _ _ el)⟩, for_tup (K := K) (a := la) (xs := ls) (fun j σ H5 => (∀ b o, H b = some o → H5 b = some o) ∧ H5 Dn = some (.lst ((comeL (rows.take j)).map V.int)) ∧ (comeL (rows.take j)).length ≤ 200 * j ∧ ∃ v2 v3 : Option V, σ = [some (.ref la), some (.ref Dn), v2, v3]) ⟨s0, upd_same, Nat.zero_le _, _, _, rfl⟩ (fun j σ H5 _ q => SqT.of (q.1 _ _ el)) ?_ ?_⟩
    · rintro j x σ H5 hx ⟨hold, eD, lD, v2, v3, rfl⟩
      obtain ⟨d, hdm, od⟩ := od_at ol hx
      rw [List.getElem?_map] at hdm
      obtain ⟨qs, hqm, rfl⟩ := Option.map_eq_some_iff.mp hdm
      have hj := (List.getElem?_eq_some_iff.mp hqm).1
      have hq2 := h200 qs (List.mem_of_getElem? hqm)
      have e9 : comeL (rows.take (j + 1)) = comeL (rows.take j) ++ qs.map (·.2) := by
        unfold comeL
        rw [List.take_add_one, hqm, List.flatMap_append]
        simp
      obtain ⟨qa, qxs, rfl, eq, oq⟩ := od_tup (od.same hold)
      have lqx : qxs.length = qs.length := by rw [oq.len, List.length_map, List.length_map]
      refine gn ?_
      dsimp only
      refine ⟨_, rfl, .inl ⟨rfl, _, SqL.of eD⟩, _, rfl, qa, rfl, ⟨_, SqT.of eq⟩, fun Dm hDm => lc_tup (K := K) (a := qa) (xs := qxs) (fun i Hx => Same H5 Hx ∧ Hx Dm = some (.lst (((qs.take i).map (·.2)).map V.int))) ⟨same_upd hDm, upd_same⟩ (fun i Hx _ q => SqT.of (q.1 _ _ eq)) ?_ ?_⟩
      · rintro i x' Hx hx' ⟨sx, ex⟩
        obtain ⟨q, b, hqm', rfl, eb⟩ := pair_at oq hx'
        refine ⟨rfl, ?_⟩
        unfold tYes
        dsimp only
        rw [if_pos rfl]
        refine ⟨_, rfl, b, _, 1, _, rfl, rfl, SqT.of (sx _ _ eb), rfl, _, ex, by rw [List.length_map, List.length_map, List.length_take]; omega, same_into hDm sx, ?_⟩
        rw [upd_same, List.take_add_one, hqm', List.map_append, List.map_append]
        rfl
      · rintro Hx ⟨sx, ex⟩
        rw [lqx, List.take_length] at ex
        have eDx := sx _ _ eD
        refine ⟨Dn, Dm, _, _, rfl, rfl, eDx, ex, by rw [List.length_map, List.length_map, List.length_map]; omega, ?_⟩
        refine ⟨fun b o e => (upd_ne (ne_of_none e hDn)).trans (sx _ _ (hold b o e)), ?_, ?_, _, _, rfl⟩
        · rw [upd_same, e9, List.map_append]
        · rw [e9, List.length_append, List.length_map]
          omega
    · rintro σ H5 ⟨hold, eD, lD, v2, v3, rfl⟩
      rw [lls, List.take_length] at eD
      refine ⟨_, rfl, Dn, _, rfl, SqL.of eD, fun ms p1 hperm hpw hp1 => ?_⟩
      have s1 := same_upd (o := HO.lst (ms.map V.int)) hp1
      refine ⟨p1, _, rfl, .inl ⟨SqL.of upd_same, fun R hR => ?_⟩⟩
      have s2 := same_upd (o := HO.tup (ms.map V.int)) hR
      exact k _ ms _ (fun b o e => s2 _ _ (s1 _ _ (hold b o e))) ⟨R, rfl, upd_same⟩ hperm hpw
theorem ok_comeL (T : D K mg) : FnOk P w K mg base CX0 1 T.f_l_come T.d_l_come ["_law_lines"] spComeL := by
  refine T.U_l_come.ok sc_come (fun vs H Q E h => ?_) (fun cdv A outer s H vs Q E hr h => ?_)
  · obtain ⟨lv, rows, rfl, _⟩ := h
    rfl
  · obtain ⟨lv, rows, rfl, hL, l6, h200, k⟩ := h
    have nd := sc_come.nd
    have mz : 5000 ≤ sizeLine := by decide
    refine ⟨_, pss_cons (ps_set (i := 1) nd rfl (.inl rfl) (pe_lst pa_nil))
      (pss_cons (ps_for PassesOwn.never rfl (pi_list (pv 0)) (pg_name (i := 2) nd rfl (.inl rfl))
        (pss_one (ps_expr (pe_bm PySem.F.plainAttrs_list PySem.F.slot_list_extend PySem.F.type_list_extend mt_extend (pv 1) (pa_cons (pe_lc (own := [("_law_pair", 3)]) (g := gName 3) (tt := tYes) rfl nd (pi_tup (pv 2)) (blkOk_by (N := ["_law_lines", "_law_found", "_law_row", "_law_pair"]) (sc := defScope s_l_come) (by decide +kernel)) (fun _ _ _ _ _ => pg_name (i := 3) nd rfl (.inl rfl)) (fun _ _ _ _ _ => pts_nil) (fun _ _ _ _ _ => pe_ix ix_tupB (pv 3) pe_int (fun _ _ => rfl))) pa_nil)))))
      (pss_one (ps_ret (pe_callTy call_tuple_of (by rfl) T.tuple (by decide +kernel) (pa_cons (pe_callB cr_sortedI (by rfl) T.sorted (by decide +kernel) (pa_cons (pv 1) pa_nil)) pa_nil))))), ?_⟩
    obtain ⟨la, ls, rfl, el, ol⟩ := od_lst hL
    have lls : ls.length = rows.length := by rw [ol.len, List.length_map]
    refine ⟨by show 0 ≤ sizeLine; omega, fun Dn hDn => gn ?_⟩
    have s0 := same_upd (o := HO.lst []) hDn
    dsimp only
    refine ⟨_, rfl, la, rfl, ⟨_, SqL.of (s0 _ _ el)⟩, for_list (K := K) (a := la) (xs := ls) (fun j σ H5 => (∀ b o, H b = some o → H5 b = some o) ∧ H5 Dn = some (.lst ((comeL (rows.take j)).map V.int)) ∧ (comeL (rows.take j)).length ≤ 200 * j ∧ ∃ v2 v3 : Option V, σ = [some (.ref la), some (.ref Dn), v2, v3]) ⟨s0, upd_same, Nat.zero_le _, _, _, rfl⟩ (fun j σ H5 _ q => SqL.of (q.1 _ _ el)) ?_ ?_⟩
    · rintro j x σ H5 hx ⟨hold, eD, lD, v2, v3, rfl⟩
      obtain ⟨d, hdm, od⟩ := od_at ol hx
      rw [List.getElem?_map] at hdm
      obtain ⟨qs, hqm, rfl⟩ := Option.map_eq_some_iff.mp hdm
      have hj := (List.getElem?_eq_some_iff.mp hqm).1
      have hq2 := h200 qs (List.mem_of_getElem? hqm)
      have e9 : comeL (rows.take (j + 1)) = comeL (rows.take j) ++ qs.map (·.2) := by
        unfold comeL
        rw [List.take_add_one, hqm, List.flatMap_append]
        simp
      obtain ⟨qa, qxs, rfl, eq, oq⟩ := od_tup (od.same hold)
      have lqx : qxs.length = qs.length := by rw [oq.len, List.length_map, List.length_map]
      refine gn ?_
      dsimp only
      refine ⟨_, rfl, .inl ⟨rfl, _, SqL.of eD⟩, _, rfl, qa, rfl, ⟨_, SqT.of eq⟩, fun Dm hDm => lc_tup (K := K) (a := qa) (xs := qxs) (fun i Hx => Same H5 Hx ∧ Hx Dm = some (.lst (((qs.take i).map (·.2)).map V.int))) ⟨same_upd hDm, upd_same⟩ (fun i Hx _ q => SqT.of (q.1 _ _ eq)) ?_ ?_⟩
      · rintro i x' Hx hx' ⟨sx, ex⟩
        obtain ⟨q, b, hqm', rfl, eb⟩ := pair_at oq hx'
        refine ⟨rfl, ?_⟩
        unfold tYes
        dsimp only
        rw [if_pos rfl]
        refine ⟨_, rfl, b, _, 1, _, rfl, rfl, SqT.of (sx _ _ eb), rfl, _, ex, by rw [List.length_map, List.length_map, List.length_take]; omega, same_into hDm sx, ?_⟩
        rw [upd_same, List.take_add_one, hqm', List.map_append, List.map_append]
        rfl
      · rintro Hx ⟨sx, ex⟩
        rw [lqx, List.take_length] at ex
        have eDx := sx _ _ eD
        refine ⟨Dn, Dm, _, _, rfl, rfl, eDx, ex, by rw [List.length_map, List.length_map, List.length_map]; omega, ?_⟩
        refine ⟨fun b o e => (upd_ne (ne_of_none e hDn)).trans (sx _ _ (hold b o e)), ?_, ?_, _, _, rfl⟩
        · rw [upd_same, e9, List.map_append]
        · rw [e9, List.length_append, List.length_map]
          omega
    · rintro σ H5 ⟨hold, eD, lD, v2, v3, rfl⟩
      rw [lls, List.take_length] at eD
      refine ⟨_, rfl, Dn, _, rfl, SqL.of eD, fun ms p1 hperm hpw hp1 => ?_⟩
      have s1 := same_upd (o := HO.lst (ms.map V.int)) hp1
      refine ⟨p1, _, rfl, .inl ⟨SqL.of upd_same, fun R hR => ?_⟩⟩
      have s2 := same_upd (o := HO.tup (ms.map V.int)) hR
      exact k _ ms _ (fun b o e => s2 _ _ (s1 _ _ (hold b o e))) ⟨R, rfl, upd_same⟩ hperm hpw
end
end KP
set_option Elab.async false
set_option maxRecDepth 100000
set_option maxHeartbeats 4000000
set_option linter.all false
/-! Ours: asks by an object; rows that come late; what each crawler gets. -/
namespace KP
open PySem PySem.Spec PyProof.Rows L2 Gr GxR
def spAskedB {K : PySem.W.Frag} {mg : Str → Option Value} (T : D K mg) : Sp := fun vs H Q _ => ∃ (a ea : Addr) (stk : List (List Int × Int)) (rv : V) (ps : List (Int × Int)) (hs ns : List Int) (t u : Int) (n : Nat), vs = [.ref a, .int u, .int (n : Nat)] ∧ MonS T H a ea stk rv ps hs ns t ∧ a ≠ ea ∧ Good ps hs ∧ Stn ps hs ns t ∧ t ≤ u ∧ n ≤ 100 ∧ stk.length ≤ 4000 ∧
  (mayI ps hs ns u (n : Nat) = true → ∀ H', (∀ b o, H b = some o → b ≠ a → b ≠ ea → H' b = some o) → MonS T H' a ea (stk ++ [(ns, t)]) rv ps hs (ns ++ List.replicate n u) u → Q (.bl true) H') ∧ (mayI ps hs ns u (n : Nat) = false → ∀ H', Same H H' → Q (.bl false) H')
theorem full_polite {ps : List (Int × Int)} {ns : List Int} (hp : ∀ p ∈ ps, 1 ≤ p.1 ∧ 1 ≤ p.2) (sr : Srt ns) (f : Full ps ns) (ho : ∀ x ∈ ns, openI [1] x = true) : Polite ps [1] ns := fun j hj => by
  have e : ns = ns.take j ++ (ns[j] :: ns.drop (j + 1)) := by rw [← List.drop_eq_getElem_cons hj, List.take_append_drop]
  have st : Srt (ns.take j) := fun a b ha hb hab => by
    rw [List.getElem_take, List.getElem_take]
    exact sr a b (by rw [List.length_take] at ha; omega) (by rw [List.length_take] at hb; omega) hab
  have low : ∀ x ∈ ns.take j, x ≤ ns[j] := fun x hx => by
    obtain ⟨i, hi, rfl⟩ := List.getElem_of_mem hx
    rw [List.length_take] at hi
    rw [List.getElem_take]
    exact sr i j (by omega) hj (by omega)
  have high : ∀ x ∈ ns.drop (j + 1), ns[j] ≤ x := fun x hx => by
    obtain ⟨i, hi, rfl⟩ := List.getElem_of_mem hx
    rw [List.length_drop] at hi
    rw [List.getElem_drop]
    exact sr j (j + 1 + i) hj (by omega) (by omega)
  unfold politeAt
  rw [List.getD_eq_getElem?_getD, List.getElem?_eq_getElem hj, Bool.and_eq_true, List.all_eq_true]
  refine ⟨ho _ (List.getElem_mem hj), fun p hp' => ?_⟩
  show apI (ns.take j) ns[j] p = true
  rw [ap_count st (hp p hp').1]
  have q := f p hp' ns[j]
  have a1 : above (ns[j] - p.2) ns = above (ns[j] - p.2) (ns.take j) + (1 + above (ns[j] - p.2) (ns.drop (j + 1))) := by
    have := congrArg (above (ns[j] - p.2)) e
    rw [this]
    show List.countP _ (ns.take j ++ (ns[j] :: ns.drop (j + 1))) = _
    rw [List.countP_append, List.countP_cons, if_pos (decide_eq_true (by have := hp p hp'; omega)), Nat.add_comm (List.countP _ (ns.drop (j + 1))) 1]
    rfl
  have a2 : above ns[j] ns = above ns[j] (ns.drop (j + 1)) := by
    have := congrArg (above ns[j]) e
    rw [this]
    show List.countP _ (ns.take j ++ (ns[j] :: ns.drop (j + 1))) = _
    rw [List.countP_append, List.countP_cons, if_neg (by simp), List.countP_eq_zero.mpr (fun x hx => by have := low x hx; simp; omega), Nat.zero_add, Nat.add_zero]
    rfl
  have a3 := above_mono (ns.drop (j + 1)) (show ns[j] - p.2 ≤ ns[j] by have := hp p hp'; omega)
  exact decide_eq_true (by omega)
/-- what stays where an object was made -/
theorem mon_made {K : PySem.W.Frag} {mg : Str → Option Value} {T : D K mg} {H H1 H' : Hp} {aa dx ea : Addr} (hT : Tb (tabs T) H) (ha : H aa = none) (hd : H dx = none) (u : UpL (tabs T) (upd (upd H dx (.own aa)) aa (.ins T.C_Monitor dx [])) H1) (he : H1 ea = none) (fr : ∀ b o, H1 b = some o → b ≠ aa → H' b = some o) :
    Stay H H' ∧ Tb (tabs T) H' ∧ H ea = none ∧ aa ≠ ea := by
  have sm : Same H (upd (upd H dx (.own aa)) aa (.ins T.C_Monitor dx [])) := fun b o e => by
    rw [upd_ne (ne_of_none e ha), upd_ne (ne_of_none e hd)]
    exact e
  have hTm : Tb (tabs T) (upd (upd H dx (.own aa)) aa (.ins T.C_Monitor dx [])) := hT.same sm
  have e1 : H1 aa = some (.ins T.C_Monitor dx []) := u.stay hTm _ _ upd_same fun _ q => nomatch q
  refine ⟨fun b o e nt => fr b o (u.stay hTm _ _ (sm _ _ e) nt) (ne_of_none e ha), fun P hP => ?_, ?_, fun z => ?_⟩
  · obtain ⟨ps, e, t⟩ := u.1 P hP
    have ne : P ≠ aa := fun z => by
      rw [z, e1] at e
      cases e
    exact ⟨ps, fr _ _ e ne, t⟩
  · cases h : H ea with
    | none => rfl
    | some o =>
      by_cases z : ea ∈ tabs T
      · obtain ⟨ps', e, _⟩ := u.1 ea z
        rw [he] at e; cases e
      · rw [u.2 ea z o (sm _ _ h)] at he; cases he
  · rw [← z, e1] at he
    cases he
theorem stay_ts {H H' : Hp} (s : Stay H H') : TupStay H H' := fun b xs e => s _ _ e fun _ q => nomatch q
theorem MonS.stay {K : PySem.W.Frag} {mg : Str → Option Value} {T : D K mg} {H H' : Hp} {a ea : Addr} {stk : List (List Int × Int)} {rv : V} {ps : List (Int × Int)} {hs ns : List Int} {t : Int} (h : MonS T H a ea stk rv ps hs ns t) (s : Stay H H') : MonS T H' a ea stk rv ps hs ns t := by
  obtain ⟨dx, cv, es, h1, h2, _⟩ := id h
  exact h.ts (stay_ts s) ((s _ _ h1 fun _ q => nomatch q).trans h1.symm) ((s _ _ h2 fun _ q => nomatch q).trans h2.symm)
theorem stn_nil {ps : List (Int × Int)} {hs : List Int} {t : Int} (g : Good ps hs) (h : 0 ≤ t) : Stn ps hs [] t := ⟨trivial, (fun _ h => nomatch h), (fun _ h => nomatch h), full_nil ps fun p hp => (g.p p hp).1, h⟩
def spSAsks {K : PySem.W.Frag} {mg : Str → Option Value} (T : D K mg) : Sp := fun vs H Q _ => ∃ (p : Addr) (lv : V) (ps : List (Int × Int)), vs = [.ref p, lv] ∧ Well H p ∧ Od H lv (limP ps) ∧ Lm ps ∧ Tb (tabs T) H ∧
  ∀ a ns H', Mv T p H H' → H' a = some (.lst (ns.map V.int)) → a ≠ p → asc 0 ns → Polite ps [1] ns → ns.length ≤ 30 → (∀ x ∈ ns, x ≤ 40) → Q (.ref a) H'
section
variable {P : Program} {w : World} {K : PySem.W.Frag} {mg : Str → Option Value} {base : Heap} {C : Addr}
theorem sc_lasked : FnScope ["_law_monitor", "_law_time", "_law_number"] ["_law_monitor", "_law_time", "_law_number"] (defScope s_l_asked) := ⟨rfl, rfl, rfl, by decide +kernel, rfl, by decide +kernel, by decide +kernel⟩
theorem ok_lasked (T : D K mg) (B : BarF K mg C) : FnOk P w K mg base CX0 8 T.f_l_asked T.d_l_asked ["_law_monitor", "_law_time", "_law_number"] (spAskedB T) := by
  refine T.U_l_asked.ok sc_lasked (fun vs H Q E h => ?_) (fun cdv A outer s H vs Q E hr h => ?_)
  · obtain ⟨a, ea, k, rv, ps, hs, ns, t, u, n, rfl, _⟩ := h
    rfl
  · obtain ⟨a, ea, stk, rv, ps, hs, ns, t, u, n, rfl, hS, nae, g, st, hu, n1, k4, kY, kN⟩ := h
    have mz : 5000 ≤ sizeLine := by decide
    refine ⟨_, pss_cons (ps_try_only rfl rfl ⟨rfl, by decide, .inl B.g⟩ takes0 (fun W pn xe tk _ => pss_one (ps_expr (pe_methX (pv 0) T.cl_Monitor T.M_ask (ok_asks T B) hr T.b_ask .nil (fun σ => passAt tk σ) (pa_cons (pv 1) (pa_cons (pv 2) pa_nil)))))
      (fun a oe cls d pn _ _ => pss_one (ps_ret pe_bl))) (pss_one (ps_ret pe_bl)), ?_⟩
    obtain ⟨dx, cv, es, h1, _⟩ := id hS
    refine ⟨_, rfl, a, _, _, rfl, h1, rfl, _, rfl, _, rfl, a, ea, stk, rv, ps, hs, ns, t, u, n, rfl, hS, nae, g, st, hu, n1, k4, kY, fun hm H1 s1 => ?_⟩
    exact ⟨true, B.e, fun _ a na => kN hm H1 s1, fun q => nomatch q⟩
theorem sc_sasks : FnScope ["_law_well_here", "_law_pairs", "_law_monitor", "_law_found", "_law_time", "_law_turn", "_law_number", "_law_is_let"] ["_law_well_here", "_law_pairs"] (defScope s_l_some_asks) := ⟨rfl, rfl, rfl, by decide +kernel, rfl, by decide +kernel, by decide +kernel⟩
theorem ok_sasks (T : D K mg) (TB : Tabs base T) (B : BarF K mg C) : FnOk P w K mg base CX0 10 T.f_l_some_asks T.d_l_some_asks ["_law_well_here", "_law_pairs"] (spSAsks T) := by
  refine T.U_l_some_asks.ok sc_sasks (fun vs H Q E h => ?_) (fun cdv A outer s H vs Q E hr h => ?_)
  · obtain ⟨p, lv, ps, rfl, _⟩ := h
    rfl
  · obtain ⟨p, lv, ps, rfl, hw, oL, hlm, hT, k⟩ := h
    have nd := sc_sasks.nd
    have mz : 5000 ≤ sizeLine := by decide
    obtain ⟨d1, v1, b1⟩ := T.b1_init
    refine ⟨_, pss_cons (ps_par3 (i := 2) (j := 3) (l := 4) (by rfl) nd rfl rfl rfl (by decide) (by decide) (by decide) rfl rfl rfl (pa_cons (pe_make T.mk_Monitor (ok_initm T TB) hr rfl T.g_Monitor b1 v1 pass0 (pa_cons (pe_tup (pa_cons (pv 1) (pa_cons (pe_tup (pa_cons pe_int pa_nil)) pa_nil))) pa_nil)) (pa_cons (pe_lst pa_nil) (pa_cons pe_int pa_nil))) (by rfl))
      (pss_cons (ps_for PassesOwn.never rfl (pi_range1 rfl T.range (pa_cons pe_int pa_nil)) (pg_name (i := 5) nd rfl (.inl rfl))
        (pss_cons (ps_par (i := 4) (j := 6) (by rfl) nd rfl rfl (by decide) rfl rfl (pa_cons (pe_op op_add (pv 4) (pe_call (ok_l_one T) (hr.mono (by decide)) rfl T.g_l_one T.U_l_one.kp T.b_l_one .nil pass0 (pa_cons (pv 0) (pa_cons (pe_lst (pa_cons pe_int (pa_cons pe_int (pa_cons pe_int (pa_cons pe_int (pa_cons pe_int pa_nil)))))) pa_nil)))) (pa_cons (pe_call (ok_l_one T) (hr.mono (by decide)) rfl T.g_l_one T.U_l_one.kp T.b_l_one .nil pass0 (pa_cons (pv 0) (pa_cons (pe_lst (pa_cons pe_int (pa_cons pe_int (pa_cons pe_int (pa_cons pe_int pa_nil))))) pa_nil))) pa_nil)) (by rfl))
        (pss_cons (ps_set (i := 7) nd rfl (.inl rfl) (pe_call (ok_lmay T) (hr.mono (by decide)) rfl T.g_l_may T.U_l_may.kp T.b_l_may .nil pass0 (pa_cons (pv 1) (pa_cons (pe_tup (pa_cons pe_int pa_nil)) (pa_cons (pv 3) (pa_cons (pv 4) (pa_cons (pv 6) pa_nil)))))))
        (pss_cons (ps_if (pt_cmpR op_ne (pe_call (ok_lasked T B) (hr.mono (by decide)) rfl T.g_l_asked T.U_l_asked.kp T.b_l_asked .nil pass0 (pa_cons (pv 2) (pa_cons (pv 4) (pa_cons (pv 6) pa_nil)))) (pv 7) (nomark _))
          (pss_one (ps_ret pe_non))
          (pss_nil))
        (pss_one (ps_expr (pe_bm PySem.F.plainAttrs_list PySem.F.slot_list_extend PySem.F.type_list_extend mt_extend (pv 3) (pa_cons (pe_op op_rep (pe_op op_rep (pe_lst (pa_cons (pv 4) pa_nil)) (pe_callTy call_int1 (by rfl) T.int PyProof.Rows.boot_int (pa_cons (pv 7) pa_nil))) (pv 6)) pa_nil))))))))
      (pss_one (ps_ret (pv 3)))), ?_⟩
    have g : Good ps [1] := ⟨hlm.1, hlm.2, by decide, by decide, fun h hh => by rw [List.mem_singleton.mp hh]; decide, ⟨0, Nat.zero_lt_one, rfl⟩⟩
    have hp12 : ∀ q ∈ ps, 1 ≤ q.1 ∧ 1 ≤ q.2 := fun q hq => by have := hlm.2 q hq; omega
    refine ⟨_, rfl, by show 1 ≤ sizeLine; omega, fun t1 ht1 => ⟨by show 2 ≤ sizeLine; omega, fun r0 hr0 => ?_⟩⟩
    have s1 := same_upd (o := HO.tup [V.int 1]) ht1
    have s2 := same_upd (o := HO.tup [lv, V.ref t1]) hr0
    have s12 := s1.trans s2
    have o1 : Od (upd (upd H t1 (.tup [V.int 1])) r0 (.tup [lv, V.ref t1])) (.ref t1) (.tuple (([1] : List Int).map PyData.int)) := .tup (s2 _ _ upd_same) (.cons (.int 1) .nil)
    have oR : Od (upd (upd H t1 (.tup [V.int 1])) r0 (.tup [lv, V.ref t1])) (.ref r0) (rulesP ps [1]) := .tup upd_same (.cons (oL.same s12) (.cons o1 .nil))
    have m2 : Mv T p H (upd (upd H t1 (.tup [V.int 1])) r0 (.tup [lv, V.ref t1])) := Mv.same hw hT s12
    generalize upd (upd H t1 (.tup [V.int 1])) r0 (.tup [lv, V.ref t1]) = H2 at *
    refine fun aa dx hxa hdx ndx => ?_
    have sm : Same H2 (upd (upd H2 dx (.own aa)) aa (.ins T.C_Monitor dx [])) := fun b o e => by
      rw [upd_ne (ne_of_none e hxa), upd_ne (ne_of_none e hdx)]
      exact e
    refine ⟨aa, dx, .ref r0, ps, [1], 0, rfl, upd_same, oR.same sm, g, Int.le_refl 0, m2.2.2.same sm, fun ea H3 H4 u3 hea fr4 hM4 => ⟨rfl, ?_⟩⟩
    obtain ⟨st4, hT4, ea2, nae⟩ := mon_made m2.2.2 hxa hdx u3 hea fr4
    have ms4 := MonS.new hM4
    have w2 := m2.2.1
    have m4 : Mv T p H H4 := by
      refine ⟨fun b o e n1 n2 => st4 _ _ (m2.1 b o e n1 n2) n2, ?_, hT4⟩
      obtain ⟨x, y, z, e⟩ := w2
      exact ⟨x, y, z, st4 _ _ e fun _ q => nomatch q⟩
    have nap : aa ≠ p := fun z => by
      obtain ⟨_, _, _, e⟩ := w2
      rw [← z, hxa] at e; cases e
    have nep : ea ≠ p := fun z => by
      obtain ⟨_, _, _, e⟩ := w2
      rw [← z, ea2] at e; cases e
    refine ⟨by show 0 ≤ sizeLine; omega, fun D hD => ⟨_, _, _, rfl, ?_⟩⟩
    have sD := same_upd (o := HO.lst []) hD
    have eD : upd H4 D (.lst []) D = some (.lst []) := upd_same
    have m5 := m4.s sD
    have ms5 := ms4.same sD
    have nDp : D ≠ p := well_ne m4.2.1 hD
    obtain ⟨_, _, _, ia4, ie4, _⟩ := id ms4
    have nDa : aa ≠ D := ne_of_none ia4 hD
    have nDe : ea ≠ D := ne_of_none ie4 hD
    have hHa : H aa = none ∨ ∃ ps', H aa = some (.tbl ps') := by
      cases h : H aa with
      | none => exact .inl rfl
      | some o =>
        by_cases z : ∀ ps', o ≠ .tbl ps'
        · rw [m2.1 aa o h nap z] at hxa; cases hxa
        · cases o with
          | tbl q => exact .inr ⟨q, rfl⟩
          | _ => exact absurd (fun _ q => nomatch q) z
    have hHe : H ea = none ∨ ∃ ps', H ea = some (.tbl ps') := by
      cases h : H ea with
      | none => exact .inl rfl
      | some o =>
        by_cases z : ∀ ps', o ≠ .tbl ps'
        · rw [m2.1 ea o h nep z] at ea2; cases ea2
        · cases o with
          | tbl q => exact .inr ⟨q, rfl⟩
          | _ => exact absurd (fun _ q => nomatch q) z
    have hHD : H D = none ∨ ∃ ps', H D = some (.tbl ps') := by
      cases h : H D with
      | none => exact .inl rfl
      | some o =>
        by_cases z : ∀ ps', o ≠ .tbl ps'
        · rw [m4.1 D o h nDp z] at hD; cases hD
        · cases o with
          | tbl q => exact .inr ⟨q, rfl⟩
          | _ => exact absurd (fun _ q => nomatch q) z
    have nne : ∀ {x b : Addr} {o : HO}, (H x = none ∨ ∃ ps', H x = some (.tbl ps')) → H b = some o → (∀ ps, o ≠ .tbl ps) → b ≠ x := fun {x b o} h e nt z => by
      rw [z] at e
      rcases h with h | ⟨q, h⟩
      · rw [h] at e; cases e
      · rw [h] at e; cases e; exact nt _ rfl
    have oL5 := oL.same s12
    generalize upd H4 D (.lst []) = H5 at *
    clear s1 s2 s12 o1 oR sm u3 hea fr4 hM4 st4 hT4 ia4 ie4 ms4 m4 sD
    dsimp only
    refine ⟨10, rfl, by decide, by decide, for_range (lo := 0) (n := _) (fun i σ Hx => Mv T p H Hx ∧ ∃ (stk : List (List Int × Int)) (ns : List Int) (tm tt : Int) (v5 v6 v7 : Option V), MonS T Hx aa ea stk (.ref r0) ps [1] ns tm ∧ stk.length ≤ i ∧ Stn ps [1] ns tm ∧ tm ≤ tt ∧ tt ≤ 4 * (i : Int) ∧ Hx D = some (.lst (ns.map V.int)) ∧ ns.length ≤ 3 * i ∧ σ = [some (.ref p), some lv, some (.ref aa), some (.ref D), some (.int tt), v5, v6, v7]) ⟨m5, [], [], 0, 0, _, _, _, ms5, Nat.le_refl _, stn_nil g (Int.le_refl 0), Int.le_refl _, by decide, eD, Nat.le_refl _, rfl⟩ ?_ ?_⟩
    · rintro i σ Hx hi ⟨mx, stk, ns, tm, tt, v5, v6, v7, ms, hk, stn, htt, htb, eDx, hnl, rfl⟩
      have hi10 : i < 10 := hi
      have t0 := stn.t0
      refine gn ?_
      dsimp only
      refine ⟨_, rfl, _, rfl, by show 5 ≤ sizeLine; omega, fun q hq => ?_⟩
      have sq := same_upd (o := HO.lst [V.int 0, V.int 1, V.int 1, V.int 2, V.int 4]) hq
      refine ⟨p, q, _, rfl, mx.2.1.same sq, upd_same, well_ne mx.2.1 hq, by decide, by decide, fun _ v H6 hv6 w6 b6 => ?_⟩
      obtain ⟨du, rfl, du0, du1⟩ : ∃ du : Int, v = .int du ∧ 0 ≤ du ∧ du ≤ 4 := by
        have hm := List.mem_of_getElem? hv6
        simp only [List.mem_cons, List.not_mem_nil, or_false] at hm
        rcases hm with rfl | rfl | rfl | rfl | rfl <;> exact ⟨_, rfl, by decide, by decide⟩
      have m6 := (mx.s sq).b b6 w6
      have ts6 := but_ts (mx.2.1.same sq) b6
      obtain ⟨_, _, _, ja, je, _⟩ := id (ms.same sq)
      have ms6 := (ms.same sq).ts ts6 ((b6 _ _ ja nap).trans ja.symm) ((b6 _ _ je nep).trans je.symm)
      have eD6 := b6 _ _ (sq _ _ eDx) nDp
      refine ⟨_, _, rfl, rfl, _, rfl, by show 4 ≤ sizeLine; omega, fun q2 hq2 => ?_⟩
      have sq2 := same_upd (o := HO.lst [V.int 1, V.int 1, V.int 2, V.int 3]) hq2
      refine ⟨p, q2, _, rfl, w6.same sq2, upd_same, well_ne w6 hq2, by decide, by decide, fun _ v H7 hv7 w7 b7 => ?_⟩
      obtain ⟨m, rfl, m3⟩ : ∃ m : Nat, v = .int (m : Nat) ∧ m ≤ 3 := by
        have hm := List.mem_of_getElem? hv7
        simp only [List.mem_cons, List.not_mem_nil, or_false] at hm
        rcases hm with rfl | rfl | rfl | rfl
        · exact ⟨1, rfl, by decide⟩
        · exact ⟨1, rfl, by decide⟩
        · exact ⟨2, rfl, by decide⟩
        · exact ⟨3, rfl, by decide⟩
      have m7 := (m6.s sq2).b b7 w7
      have ts7 := but_ts (w6.same sq2) b7
      obtain ⟨_, _, _, ka, ke, _⟩ := id (ms6.same sq2)
      have ms7 := (ms6.same sq2).ts ts7 ((b7 _ _ ka nap).trans ka.symm) ((b7 _ _ ke nep).trans ke.symm)
      have eD7 := b7 _ _ (sq2 _ _ eD6) nDp
      obtain ⟨u, hu, u0, u1⟩ : ∃ u : Int, tt + du = u ∧ tt ≤ u ∧ u ≤ tt + 4 := ⟨_, rfl, by omega, by omega⟩
      refine ⟨_, _, rfl, ?_⟩
      dsimp only
      rw [hu]
      clear mx sq sq2 m6 ms6 ts6 ts7 ja je ka ke b6 b7 w6 w7 hv6 hv7 hq hq2 ms eDx eD6
      refine ⟨_, rfl, by show 1 ≤ sizeLine; omega, fun t2 ht2 => ⟨_, rfl, _, rfl, _, rfl, lv, .ref t2, D, u, (m : Nat), ps, [1], ns, rfl, ?_, .tup upd_same (.cons (.int 1) .nil), by decide, (same_upd ht2) _ _ eD7, by omega, by omega, fun H8 s8 => gn ?_⟩⟩
      · exact ((oL.ts (fun b xs e => m7.1 b _ e (fun z => by
          obtain ⟨_, _, _, ew⟩ := hw
          rw [z, ew] at e; cases e) fun _ q => nomatch q) (tup_lim ps)).same (same_upd ht2))
      have s78 := (same_upd (o := HO.tup [V.int 1]) ht2).trans s8
      have m8 := m7.s s78
      have ms8 := ms7.same s78
      have eD8 := s78 _ _ eD7
      clear m7 ms7 eD7 s78 s8 ht2
      obtain ⟨ml, hml⟩ : ∃ ml, mayI ps [1] ns u (m : Nat) = ml := ⟨_, rfl⟩
      rw [hml]
      dsimp only
      refine cut1 (fun σ' H' => Mv T p H H' ∧ ∃ (stk' : List (List Int × Int)) (tm' : Int), MonS T H' aa ea stk' (.ref r0) ps [1] (ns ++ List.replicate (if ml = true then m else 0) u) tm' ∧ stk'.length ≤ i + 1 ∧ Stn ps [1] (ns ++ List.replicate (if ml = true then m else 0) u) tm' ∧ tm' ≤ u ∧ H' D = some (.lst (ns.map V.int)) ∧ σ' = [some (.ref p), some lv, some (.ref aa), some (.ref D), some (.int u), some (.int (0 + (i : Int))), some (.int (m : Nat)), some (.bl ml)]) (fun N hN => ?_) ?_
      · refine ⟨_, rfl, _, rfl, _, rfl, aa, ea, stk, .ref r0, ps, [1], ns, tm, u, m, rfl, ms8, nae, g, stn, by omega, by omega, by omega, fun hm H9 fr9 m9 => ?_, fun hm H9 s9 => ?_⟩
        · obtain rfl : ml = true := by rw [← hml]; exact hm
          refine ⟨_, rfl, rfl, _, rfl, iteF (hN _ _ ⟨?_, stk ++ [(ns, tm)], u, m9, by rw [List.length_append]; show _ + 1 ≤ _; omega, stn.ask (by omega) hp12 hm, Int.le_refl _, fr9 _ _ eD8 (Ne.symm nDa) (Ne.symm nDe), rfl⟩)⟩
          refine ⟨fun b o e n1 n2 => fr9 _ _ (m8.1 b o e n1 n2) (nne hHa e n2) (nne hHe e n2), ?_, fun P hP => ?_⟩
          · obtain ⟨x, y, z, e⟩ := m8.2.1
            exact ⟨x, y, z, fr9 _ _ e (Ne.symm nap) (Ne.symm nep)⟩
          · obtain ⟨_, _, _, i1, i2, _⟩ := id ms8
            obtain ⟨ps', e, tt'⟩ := m8.2.2 P hP
            have n1 : P ≠ aa := fun z => by rw [z, i1] at e; cases e
            have n2 : P ≠ ea := fun z => by rw [z, i2] at e; cases e
            exact ⟨ps', fr9 _ _ e n1 n2, tt'⟩
        · obtain rfl : ml = false := by rw [← hml]; exact hm
          refine ⟨_, rfl, rfl, _, rfl, iteF (hN _ _ ⟨m8.s s9, stk, tm, ?_, by omega, ?_, by omega, s9 _ _ eD8, rfl⟩)⟩
          · rw [show ns ++ List.replicate (if false = true then m else 0) u = ns by simp]
            exact ms8.same s9
          · rw [show ns ++ List.replicate (if false = true then m else 0) u = ns by simp]
            exact stn
      · rintro σ' H9 ⟨m9, stk', tm', ms9, hk', stn', htm', eD9, rfl⟩
        refine ⟨_, rfl, .inl ⟨rfl, _, SqL.of eD9⟩, _, rfl, by show 1 ≤ sizeLine; omega, fun q1 hq1 => ?_⟩
        have sq1 := same_upd (o := HO.lst [V.int u]) hq1
        obtain ⟨kk, hkk, kk1⟩ : ∃ kk : Nat, (if ml = true then (1 : Int) else 0) = (kk : Nat) ∧ m * kk = (if ml = true then m else 0) := by
          cases ml with
          | true => exact ⟨1, rfl, by simp⟩
          | false => exact ⟨0, rfl, by simp⟩
        have kk2 : kk ≤ 1 := by
          cases ml with
          | true => have : ((1 : Int)) = (kk : Nat) := hkk; omega
          | false => have : ((0 : Int)) = (kk : Nat) := hkk; omega
        refine ⟨_, rfl, .inr ⟨ml, rfl, ?_⟩⟩
        rw [hkk]
        refine ⟨q1, _, _, rfl, rfl, upd_same, by omega, by omega, by show 1 * _ ≤ _; omega, fun q2 hq2 => ?_⟩
        rw [Int.toNat_natCast, rep_flat]
        have sq2 := same_upd (o := HO.lst (List.replicate kk (V.int u))) hq2
        refine ⟨_, rfl, q2, _, _, rfl, rfl, upd_same, by omega, by omega, by rw [List.length_replicate, Int.toNat_natCast]; have : kk * m ≤ 1 * 3 := Nat.mul_le_mul kk2 m3; omega, fun q3 hq3 => ?_⟩
        rw [Int.toNat_natCast, List.flatten_replicate_replicate, kk1]
        have sq3 := same_upd (o := HO.lst (List.replicate (if ml = true then m else 0) (V.int u))) hq3
        have sq13 := sq1.trans (sq2.trans sq3)
        have lrep : (if ml = true then m else 0) ≤ 3 := by split <;> omega
        have ms10 := ms9.same sq13
        have m10 := m9.s sq13
        have eD10 := sq13 _ _ eD9
        have e3 : upd (upd (upd H9 q1 (.lst [V.int u])) q2 (.lst (List.replicate kk (V.int u)))) q3 (.lst (List.replicate (if ml = true then m else 0) (V.int u))) q3 = some (.lst (List.replicate (if ml = true then m else 0) (V.int u))) := upd_same
        generalize upd (upd (upd H9 q1 (.lst [V.int u])) q2 (.lst (List.replicate kk (V.int u)))) q3 (.lst (List.replicate (if ml = true then m else 0) (V.int u))) = H10 at *
        refine ⟨D, q3, _, _, rfl, rfl, eD10, e3, by rw [List.length_map, List.length_replicate]; omega, ?_⟩
        have eN : ns.map V.int ++ List.replicate (if ml = true then m else 0) (V.int u) = (ns ++ List.replicate (if ml = true then m else 0) u).map V.int := by rw [List.map_append, List.map_replicate]
        rw [eN]
        refine ⟨⟨fun b o e n1 n2 => (upd_ne (nne hHD e n2)).trans (m10.1 b o e n1 n2), ?_, fun P hP => ?_⟩, stk', _, tm', u, _, _, _, ms10.ts (ts_put eD10) (upd_ne nDa) (upd_ne nDe), hk', stn', htm', by omega, upd_same, by rw [List.length_append, List.length_replicate]; omega, rfl⟩
        · obtain ⟨x, y, z, e⟩ := m10.2.1
          exact ⟨x, y, z, (upd_ne (Ne.symm nDp)).trans e⟩
        · obtain ⟨ps', e, tt'⟩ := m10.2.2 P hP
          have n1 : P ≠ D := fun z => by rw [z, eD10] at e; cases e
          exact ⟨ps', (upd_ne n1).trans e, tt'⟩
    · rintro σ Hx ⟨mx, stk, ns, tm, tt, v5, v6, v7, ms, hk, stn, htt, htb, eDx, hnl, rfl⟩
      have htb : tt ≤ 40 := by omega
      have hnl : ns.length ≤ 30 := hnl
      exact ⟨_, rfl, k D ns Hx mx eDx nDp stn.asc (full_polite hp12 (asc_srt stn.asc) stn.full stn.opn) hnl fun x hx => by have := stn.top x hx; omega⟩
end
end KP
set_option Elab.async false
set_option maxRecDepth 100000
set_option maxHeartbeats 4000000
set_option linter.all false
/-! Ours: rows that come late; what each crawler gets. -/
namespace KP
open PySem PySem.Spec PyProof.Rows L2 Gr GxR
def spLate : Sp := fun vs H Q _ => ∃ (p a : Addr) (D : Int) (ns : List Int), vs = [.ref p, .ref a, .int D] ∧ Well H p ∧ H a = some (.lst (ns.map V.int)) ∧ a ≠ p ∧ asc 0 ns ∧ ns.length ≤ 60 ∧ (∀ x ∈ ns, x ≤ 40) ∧ 0 ≤ D ∧ D ≤ 24 ∧
  ∀ z qs H', But H H' p → Well H' p → Od H' z (limP qs) → qs.map (·.1) = ns → (∀ q ∈ qs, q.1 ≤ q.2 ∧ q.2 ≤ q.1 + D) → asc 0 (qs.map (·.2)) → Q z H'
def spDue : Sp := fun vs H Q _ => ∃ (sv : V) (n D : Int) (ps : List (Int × Int)), vs = [sv, .int n, .int D] ∧ Od H sv (limP ps) ∧ Lm ps ∧ 1 ≤ n ∧ n ≤ 6 ∧ 0 ≤ D ∧ D ≤ 24 ∧ ∀ z H', Same H H' → Od H' z (.tuple ((dealP ps n D).map limP)) → Q z H'
theorem LstT.at {H : Hp} {D : Addr} (e : H D = some (.lst [])) : LstT H D [] := ⟨[], e, .nil, rfl⟩
section
variable {P : Program} {w : World} {K : PySem.W.Frag} {mg : Str → Option Value} {base : Heap} {C : Addr}
theorem sc_late : FnScope ["_law_well_here", "_law_asks", "_law_delay", "_law_row", "_law_last", "_law_gate", "_law_time", "_law_least"] ["_law_well_here", "_law_asks", "_law_delay"] (defScope s_l_late) := ⟨rfl, rfl, rfl, by decide +kernel, rfl, by decide +kernel, by decide +kernel⟩
theorem ok_late (T : D K mg) : FnOk P w K mg base CX0 2 T.f_l_late T.d_l_late ["_law_well_here", "_law_asks", "_law_delay"] spLate := by
  refine T.U_l_late.ok sc_late (fun vs H Q E h => ?_) (fun cdv A outer s H vs Q E hr h => ?_)
  · obtain ⟨p, a, D, ns, rfl, _⟩ := h
    rfl
  · obtain ⟨p, a, D, ns, rfl, hw, ea, nap, hasc, hl, hb, d0, d1, k⟩ := h
    have nd := sc_late.nd
    have mz : 5000 ≤ sizeLine := by decide
    refine ⟨_, pss_cons (ps_par3 (i := 3) (j := 4) (l := 5) (by rfl) nd rfl rfl rfl (by decide) (by decide) (by decide) rfl rfl rfl (pa_cons (pe_lst pa_nil) (pa_cons pe_int (pa_cons (pe_call (ok_l_pick T) hr rfl T.g_l_pick T.U_l_pick.kp T.b_l_pick .nil pass0 (pa_cons (pv 0) (pa_cons pe_int pa_nil))) pa_nil))) (by rfl))
      (pss_cons (ps_for PassesOwn.never rfl (pi_list (pv 1)) (pg_name (i := 6) nd rfl (.inl rfl))
        (pss_cons (ps_set (i := 7) nd rfl (.inl rfl) (pe_callB (call_max2 rfl) (by rfl) T.max boot_max (pa_cons (pv 4) (pa_cons (pv 6) pa_nil))))
        (pss_cons (ps_if (pt_cmpR op_eq (pe_call (ok_l_pick T) hr rfl T.g_l_pick T.U_l_pick.kp T.b_l_pick .nil pass0 (pa_cons (pv 0) (pa_cons pe_int pa_nil))) pe_int (nomark _))
          (pss_one (ps_set (i := 4) nd rfl (.inl rfl) (pe_op op_add (pv 7) (pe_call (ok_l_pick T) hr rfl T.g_l_pick T.U_l_pick.kp T.b_l_pick .nil pass0 (pa_cons (pv 0) (pa_cons (pe_op op_add (pe_op op_sub (pe_op op_add (pv 6) (pv 2)) (pv 7)) pe_int) pa_nil))))))
          (pss_one (ps_set (i := 4) nd rfl (.inl rfl) (pe_callB (call_max2 rfl) (by rfl) T.max boot_max (pa_cons (pv 7) (pa_cons (pe_callB (call_min2 rfl) (by rfl) T.min boot_min (pa_cons (pe_op op_add (pv 6) (pv 2)) (pa_cons (pv 5) pa_nil))) pa_nil))))))
        (pss_one (ps_expr (pe_bm PySem.F.plainAttrs_list PySem.F.slot_list_append PySem.F.type_list_append mt_append (pv 3) (pa_cons (pe_tup (pa_cons (pv 6) (pa_cons (pv 4) pa_nil))) pa_nil)))))))
      (pss_one (ps_ret (pe_callTy call_tuple_of (by rfl) T.tuple (by decide +kernel) (pa_cons (pv 3) pa_nil))))), ?_⟩
    refine ⟨by show 0 ≤ sizeLine; omega, fun R hR => ⟨_, rfl, p, 12, rfl, hw.same (same_upd hR), by decide, by decide, fun gt H2 g0 g1 w2 b2 => ⟨_, _, _, rfl, ?_⟩⟩⟩
    have nRp : R ≠ p := well_ne hw hR
    have naR : a ≠ R := ne_of_none ea hR
    have sR := same_upd (o := HO.lst []) hR
    have eR2 : H2 R = some (.lst []) := b2 _ _ upd_same nRp
    have bb2 : ∀ b o, H b = some o → b ≠ p → H2 b = some o := fun b o e n => b2 _ _ (sR _ _ e) n
    have srt := asc_srt hasc
    dsimp only
    refine ⟨_, rfl, a, rfl, ⟨_, SqL.of (bb2 _ _ ea nap)⟩, for_list (K := K) (a := a) (xs := ns.map V.int) (fun j σ Hx => But H Hx p ∧ Well Hx p ∧ (∃ us, Hx R = some (.lst us) ∧ us.length = j) ∧ ∃ (qs : List (Int × Int)) (la : Int) (v6 v7 : Option V), LstT Hx R ((qs.map inD).map tw) ∧ qs.map (·.1) = ns.take j ∧ (∀ q ∈ qs, q.1 ≤ q.2 ∧ q.2 ≤ q.1 + D) ∧ asc 0 (qs.map (·.2)) ∧ (∀ q ∈ qs, q.2 ≤ la) ∧ 0 ≤ la ∧ la ≤ 64 ∧ (∀ x ∈ ns.drop j, la ≤ x + D) ∧ σ = [some (.ref p), some (.ref a), some (.int D), some (.ref R), some (.int la), some (.int gt), v6, v7]) ⟨bb2, w2, ⟨[], eR2, rfl⟩, [], 0, _, _, LstT.at eR2, rfl, (fun _ h => nomatch h), trivial, (fun _ h => nomatch h), Int.le_refl _, by decide, fun x hx => by have := asc_ge hasc x (List.mem_of_mem_drop hx); omega, rfl⟩ (fun j σ Hx _ q => SqL.of (q.1 _ _ ea nap)) ?_ ?_⟩
    · rintro j x σ Hx hx ⟨bx, wx, ⟨us, eu, lu⟩, qs, la, v6, v7, lt, hq1, hq2, hq3, hq4, l0, l64, hdr, rfl⟩
      rw [List.getElem?_map] at hx
      obtain ⟨t, ht, rfl⟩ := Option.map_eq_some_iff.mp hx
      obtain ⟨hj, hje⟩ := List.getElem?_eq_some_iff.mp ht
      have tm : t ∈ ns := List.mem_of_getElem? ht
      have t0 := asc_ge hasc t tm
      have t40 := hb t tm
      have hla : la ≤ t + D := hdr t (by rw [List.drop_eq_getElem_cons hj, hje]; exact List.mem_cons_self)
      refine gn ?_
      dsimp only
      refine ⟨_, rfl, _, rfl, _, _, rfl, gn ?_⟩
      obtain ⟨le, hle, le0, le1, le2⟩ : ∃ le : Int, (if t > la then t else la) = le ∧ la ≤ le ∧ t ≤ le ∧ le ≤ t + D := ⟨_, rfl, by split <;> omega, by split <;> omega, by split <;> omega⟩
      rw [hle]
      dsimp only
      refine cut1 (fun σ' H' => But H H' p ∧ Well H' p ∧ H' R = some (.lst us) ∧ LstT H' R ((qs.map inD).map tw) ∧ ∃ la' : Int, le ≤ la' ∧ la' ≤ t + D ∧ σ' = [some (.ref p), some (.ref a), some (.int D), some (.ref R), some (.int la'), some (.int gt), some (.int t), some (.int le)]) (fun N hN => ?_) ?_
      · refine ⟨_, rfl, p, 2, rfl, wx, by decide, by decide, fun pk H3 _ _ w3 b3 => ⟨rfl, _, rfl, ite2 (fun _ => ?_) (fun _ => ?_)⟩⟩
        · have ts3 := but_ts wx b3
          refine ⟨_, rfl, _, rfl, _, rfl, _, rfl, _, _, rfl, rfl, _, rfl, _, _, rfl, rfl, _, _, rfl, rfl, p, t + D - le + 1, rfl, w3, by omega, by omega, fun m H4 m0 m1 w4 b4 => ⟨_, _, rfl, rfl, gn ?_⟩⟩
          have ts4 := but_ts w3 b4
          exact hN _ _ ⟨bx.trans (b3.trans b4), w4, b4 _ _ (b3 _ _ eu nRp) nRp, lt.ts (fun b xs e => ts4 _ _ (ts3 _ _ e)) (fun vs e => b4 _ _ (b3 _ _ e nRp) nRp), _, by omega, by omega, rfl⟩
        · have ts3 := but_ts wx b3
          refine ⟨_, rfl, _, rfl, _, rfl, _, _, rfl, rfl, _, rfl, _, _, rfl, _, _, rfl, gn ?_⟩
          exact hN _ _ ⟨bx.trans b3, w3, b3 _ _ eu nRp, lt.ts ts3 (fun vs e => b3 _ _ e nRp), _, by split <;> split <;> omega, by split <;> split <;> omega, rfl⟩
      · rintro σ' H3 ⟨b3, w3, eu3, lt3, la', la1, la2, rfl⟩
        refine ⟨_, rfl, .inl ⟨rfl, _, SqL.of eu3⟩, _, rfl, _, rfl, by show 2 ≤ sizeLine; omega, fun y hy => ?_⟩
        have sy := same_upd (o := HO.tup [V.int t, V.int la']) hy
        have oy : Od (upd H3 y (.tup [V.int t, V.int la'])) (.ref y) (tw (inD (t, la'))) := .tup upd_same (.cons (.int _) (.cons (.int _) .nil))
        have lt4 := lt3.same sy
        have eu4 := sy _ _ eu3
        have b4 := b3.trans (But.same' sy)
        have w4 := w3.same sy
        generalize upd H3 y (.tup [V.int t, V.int la']) = H4 at *
        refine ⟨R, _, _, rfl, rfl, eu4, by omega, ?_⟩
        refine ⟨fun b o e n => (upd_ne (ne_of_none e hR)).trans (b4 _ _ e n), ?_, ⟨_, upd_same, by rw [List.length_append, lu]; rfl⟩, qs ++ [(t, la')], la', _, _, ?_, ?_, ?_, ?_, ?_, by omega, by omega, ?_, rfl⟩
        · obtain ⟨x1, x2, x3, e⟩ := w4
          exact ⟨x1, x2, x3, (upd_ne (Ne.symm nRp)).trans e⟩
        · rw [List.map_append, List.map_append]
          exact lt4.put eu4 oy (tup_pair _)
        · rw [List.map_append, hq1, List.take_add_one, ht]
          rfl
        · intro q hq
          rcases List.mem_append.mp hq with h | h
          · exact hq2 q h
          · rw [List.mem_singleton.mp h]
            exact ⟨by show t ≤ la'; omega, la2⟩
        · rw [List.map_append]
          refine asc_app hq3 (fun x hx y hy => ?_) ⟨by show (0 : Int) ≤ la'; omega, trivial⟩
          obtain ⟨q, hq, rfl⟩ := List.mem_map.mp hx
          rw [List.mem_singleton.mp hy]
          have := hq4 q hq
          show q.2 ≤ la'
          omega
        · intro q hq
          rcases List.mem_append.mp hq with h | h
          · have := hq4 q h
            omega
          · rw [List.mem_singleton.mp h]
            exact Int.le_refl _
        · intro x hx
          obtain ⟨i, hi, rfl⟩ := List.getElem_of_mem hx
          rw [List.length_drop] at hi
          rw [List.getElem_drop]
          have := srt j (j + 1 + i) hj (by omega) (by omega)
          rw [hje] at this
          omega
    · rintro σ Hx ⟨bx, wx, ⟨us, eu, lu⟩, qs, la, v6, v7, lt, hq1, hq2, hq3, hq4, l0, l64, hdr, rfl⟩
      rw [List.length_map, List.take_length] at hq1
      refine ⟨_, rfl, R, _, rfl, .inl ⟨SqL.of eu, fun z hz => ?_⟩⟩
      have sz := same_upd (o := HO.tup us) hz
      exact k _ qs _ (bx.trans (But.same' sz)) (wx.same sz) (lt.tup eu hz) hq1 hq2 hq3
end
end KP
set_option Elab.async false
set_option maxRecDepth 100000
set_option maxHeartbeats 4000000
set_option linter.all false
/-! Ours: what each crawler gets. -/
namespace KP
open PySem PySem.Spec PyProof.Rows L2 Gr GxR
section
variable {P : Program} {w : World} {K : PySem.W.Frag} {mg : Str → Option Value} {base : Heap} {C : Addr}
theorem sc_due : FnScope ["_law_shares", "_law_number", "_law_delay", "_law_found", "_law_turn", "_law_mine", "_law_pair"] ["_law_shares", "_law_number", "_law_delay"] (defScope s_l_due) := ⟨rfl, rfl, rfl, by decide +kernel, rfl, by decide +kernel, by decide +kernel⟩
theorem ok_due (T : D K mg) : FnOk P w K mg base CX0 2 T.f_l_due T.d_l_due ["_law_shares", "_law_number", "_law_delay"] spDue := by
  refine T.U_l_due.ok sc_due (fun vs H Q E h => ?_) (fun cdv A outer s H vs Q E hr h => ?_)
  · obtain ⟨sv, n, D, ps, rfl, _⟩ := h
    rfl
  · obtain ⟨sv, n, D, ps, rfl, hS, hg, n1, n6, d0, d1, k⟩ := h
    have nd := sc_due.nd
    have mz : 5000 ≤ sizeLine := by decide
    refine ⟨_, pss_cons (ps_set (i := 3) nd rfl (.inl rfl) (pe_lst pa_nil))
      (pss_cons (ps_for PassesOwn.never rfl (pi_range1 rfl T.range (pa_cons (pv 1) pa_nil)) (pg_name (i := 4) nd rfl (.inr rfl))
        (pss_cons (ps_setLc (i := 5) (own := [("_law_pair", 6)]) (g := gName 6) (tt := tYes) rfl nd rfl rfl (sw_true rfl rfl rfl (by decide +kernel)) (pi_tup (pv 0)) (blkOk_by (N := ["_law_shares", "_law_number", "_law_delay", "_law_found", "_law_turn", "_law_mine", "_law_pair"]) (sc := defScope s_l_due) (by decide +kernel)) (fun _ _ _ _ _ => pg_name (i := 6) nd rfl (.inl rfl)) (fun _ _ _ _ _ => pts_nil) (fun _ _ _ _ _ => pe_tup (pa_cons (pe_op op_add (pe_op op_fdivN (pe_ix ix_tupB (pv 6) pe_int (fun _ _ => rfl)) (pv 1)) (pe_callTy call_int1 (by rfl) T.int PyProof.Rows.boot_int (pa_cons (pe_cmpR op_lt (pv 4) (pe_op op_modN (pe_callTy call_int1 (by rfl) T.int PyProof.Rows.boot_int (pa_cons (pe_ix ix_tupB (pv 6) pe_int (fun _ _ => rfl)) pa_nil)) (pv 1)) (nomark _)) pa_nil))) (pa_cons (pe_op op_add (pe_ix ix_tupB (pv 6) pe_int (fun _ _ => rfl)) (pv 2)) pa_nil))))
        (pss_one (ps_expr (pe_bm PySem.F.plainAttrs_list PySem.F.slot_list_append PySem.F.type_list_append mt_append (pv 3) (pa_cons (pe_callTy call_tuple_of (by rfl) T.tuple (by decide +kernel) (pa_cons (pv 5) pa_nil)) pa_nil))))))
      (pss_one (ps_ret (pe_callTy call_tuple_of (by rfl) T.tuple (by decide +kernel) (pa_cons (pv 3) pa_nil))))), ?_⟩
    obtain ⟨la, ls, rfl, el, ol⟩ := od_tup hS
    have lls : ls.length = ps.length := by rw [ol.len, List.length_map, List.length_map]
    refine ⟨by show 0 ≤ sizeLine; omega, fun D1 h1 => gn ?_⟩
    have s0 := same_upd (o := HO.lst []) h1
    refine ⟨_, rfl, n, rfl, by omega, by omega, for_range (lo := 0) (n := _) (fun i σ Hx => (∀ b o, H b = some o → Hx b = some o) ∧ (∃ us, Hx D1 = some (.lst us) ∧ us.length = i) ∧ LstT Hx D1 ((List.range i).map fun j => limP (shareP ps n D (j : Nat))) ∧ ∃ (v4 v5 : Option V), σ = [some (.ref la), some (.int n), some (.int D), some (.ref D1), v4, v5, none]) ⟨s0, ⟨[], upd_same, rfl⟩, LstT.at upd_same, _, _, rfl⟩ ?_ ?_⟩
    · rintro i σ Hx hi ⟨hold, ⟨us, eu, lu⟩, lt, v4, v5, rfl⟩
      have hi6 : i < 6 := by omega
      refine gn ?_
      rw [Int.zero_add]
      dsimp only
      refine ⟨_, rfl, la, rfl, ⟨_, SqT.of (hold _ _ el)⟩, fun D2 h2 => lc_tup (K := K) (a := la) (xs := ls) (fun j H5 => Same Hx H5 ∧ (∃ us, H5 D2 = some (.lst us) ∧ us.length = j) ∧ LstT H5 D2 (((shareP (ps.take j) n D (i : Nat)).map inD).map tw)) ⟨same_upd h2, ⟨[], upd_same, rfl⟩, LstT.at upd_same⟩ (fun j H5 _ q => SqT.of (q.1 _ _ (hold _ _ el))) ?_ ?_⟩
      · rintro j x H5 hx ⟨s5, ⟨ws, ew, lw⟩, lt5⟩
        obtain ⟨q, b, hqm, rfl, eb⟩ := pair_at ol hx
        have hj := (List.getElem?_eq_some_iff.mp hqm).1
        have hq := hg.2 q (List.mem_of_getElem? hqm)
        have eb5 := s5 _ _ (hold _ _ eb)
        refine ⟨rfl, ?_⟩
        unfold tYes
        dsimp only
        rw [if_pos rfl]
        refine ⟨_, rfl, b, _, 0, _, rfl, rfl, SqT.of eb5, rfl, _, rfl, q.1, n, rfl, rfl, ⟨by omega, by omega⟩, _, rfl, _, rfl, b, _, 0, _, rfl, rfl, SqT.of eb5, rfl, .inl ⟨q.1, rfl, _, rfl, q.1, n, rfl, rfl, by omega, _, _, rfl, rfl, .inr ⟨_, rfl, _, _, rfl, rfl, _, rfl, b, _, 1, _, rfl, rfl, SqT.of eb5, rfl, _, rfl, _, _, rfl, rfl, by show 2 ≤ sizeLine; omega, fun t ht => ?_⟩⟩⟩
        have ev : (q.1.fdiv n + (if decide (((i : Nat) : Int) < q.1.fmod n) = true then 1 else 0)) = q.1 / n + (if ((i : Nat) : Int) < q.1 % n then 1 else 0) := by
          rw [Int.fdiv_eq_ediv_of_nonneg _ (by omega), Int.fmod_eq_emod_of_nonneg _ (by omega)]
          simp only [decide_eq_true_eq]
        dsimp only
        rw [ev]
        have st := same_upd (o := HO.tup [V.int (q.1 / n + (if ((i : Nat) : Int) < q.1 % n then 1 else 0)), V.int (q.2 + D)]) ht
        have et : upd H5 t (.tup [V.int (q.1 / n + (if ((i : Nat) : Int) < q.1 % n then 1 else 0)), V.int (q.2 + D)]) t = some (.tup [V.int (q.1 / n + (if ((i : Nat) : Int) < q.1 % n then 1 else 0)), V.int (q.2 + D)]) := upd_same
        replace lt5 := lt5.same st
        replace ew := st _ _ ew
        replace s5 := s5.trans st
        generalize upd H5 t (.tup [V.int (q.1 / n + (if ((i : Nat) : Int) < q.1 % n then 1 else 0)), V.int (q.2 + D)]) = H6 at *
        refine ⟨_, ew, by have := hg.1; omega, same_into h2 s5, ⟨_, upd_same, by rw [List.length_append, lw]; rfl⟩, ?_⟩
        have e2 : ((shareP (ps.take (j + 1)) n D (i : Nat)).map inD).map tw = ((shareP (ps.take j) n D (i : Nat)).map inD).map tw ++ [tw (inD (q.1 / n + (if ((i : Nat) : Int) < q.1 % n then 1 else 0), q.2 + D))] := by
          unfold shareP
          rw [List.take_add_one, hqm, List.map_append, List.map_append, List.map_append]
          rfl
        rw [e2]
        exact lt5.put ew (.tup et (.cons (.int _) (.cons (.int _) .nil))) (tup_pair _)
      · rintro H5 ⟨s5, ⟨ws, ew, lw⟩, lt5⟩
        rw [lls, List.take_length] at lt5
        refine gn ?_
        dsimp only
        refine ⟨_, rfl, .inl ⟨rfl, _, SqL.of (s5 _ _ eu)⟩, _, rfl, D2, _, rfl, .inl ⟨SqL.of ew, fun R hR => ?_⟩⟩
        have sR := same_upd (o := HO.tup ws) hR
        have oR := lt5.tup ew hR
        have lt6 := (lt.same s5).same sR
        have eu6 := sR _ _ (s5 _ _ eu)
        refine ⟨D1, _, _, rfl, rfl, eu6, by omega, ?_⟩
        refine ⟨fun b o e => (upd_ne (ne_of_none e h1)).trans (sR _ _ (s5 _ _ (hold b o e))), ⟨_, upd_same, by rw [List.length_append, lu]; rfl⟩, ?_, _, _, rfl⟩
        rw [List.range_succ, List.map_append]
        exact lt6.put eu6 oR (tup_lim _)
    · rintro σ H5 ⟨hold, ⟨us, eu, lu⟩, lt, v4, v5, rfl⟩
      refine ⟨_, rfl, D1, _, rfl, .inl ⟨SqL.of eu, fun R hR => ?_⟩⟩
      have sR := same_upd (o := HO.tup us) hR
      have q := lt.tup eu hR
      have erow : ((List.range n.toNat).map fun j => limP (shareP ps n D (j : Nat))) = (dealP ps n D).map limP := by
        unfold dealP
        rw [List.map_map]
        rfl
      rw [erow] at q
      exact k _ _ (fun b o e => sR _ _ (hold b o e)) q
end
end KP
set_option Elab.async false
set_option maxRecDepth 100000
set_option maxHeartbeats 8000000
set_option linter.all false
/-! Ours: one crawler more. -/
namespace KP
open PySem PySem.Spec PyProof.Rows L2 Gr GxR
theorem below_pos {ms : List (Int × Int)} (g : Lm ms) {n : Int} (n1 : 1 ≤ n) (n2 : n ≤ 100) : 1 ≤ belowI ms n ∧ belowI ms n ≤ 606 := by
  unfold belowI
  by_cases z : ms = []
  · rw [if_pos z]; decide
  · rw [if_neg z]
    obtain ⟨h, l⟩ := mw_spec z g (n := n) (by omega)
    have := mw_pos z (fun p hp => (g.2 p hp).1) n1 h
    omega
theorem keep_rep {ms ps : List (Int × Int)} (gm : Lm ms) (g : Lm ps) {D u : Int} (d0 : 0 ≤ D) (d24 : D ≤ 24) (hps : ps ≠ []) {k : Nat} (k1 : 1 ≤ k) (k6 : k ≤ 6) (hle : ∀ q ∈ ps, u ≤ q.1 / belowI ms (q.2 + D)) (hor : u = 6 ∨ ∃ q ∈ ps, u = q.1 / belowI ms (q.2 + D)) : keepB (List.replicate k (ms, D)) ps = decide ((k : Int) ≤ u) := by
  have pb : ∀ q ∈ ps, pairB (List.replicate k (ms, D)) q = (!ms.isEmpty && decide ((k : Int) * ((mw ms (q.2 + D) : Nat) : Int) ≤ q.1)) := fun q hq => by
    unfold pairB
    congr 1
    · cases hk : k with
      | zero => omega
      | succ j =>
        rw [List.any_replicate, if_neg (by omega)]
    · congr 1
      rw [List.map_replicate]
      have : ∀ j : Nat, (List.replicate j ((mw ms (q.2 + D) : Nat) : Int)).sum = (j : Int) * ((mw ms (q.2 + D) : Nat) : Int) := fun j => by
        induction j with
        | zero => simp
        | succ j ih => rw [List.replicate_succ, List.sum_cons, ih, Int.natCast_add, Int.add_mul]; simp; omega
      show ((List.replicate k ((mw ms (q.2 + D) : Nat) : Int)).sum ≤ q.1) = _
      rw [this]
  by_cases zm : ms = []
  · subst zm
    have e1 : keepB (List.replicate k (([] : List (Int × Int)), D)) ps = false := by
      obtain ⟨q, l, rfl⟩ := List.exists_cons_of_ne_nil hps
      unfold keepB
      rw [List.all_cons, pb q List.mem_cons_self]
      rfl
    rw [e1]
    obtain ⟨q, l, rfl⟩ := List.exists_cons_of_ne_nil hps
    have a := hle q List.mem_cons_self
    have b := g.2 q List.mem_cons_self
    have e : belowI [] (q.2 + D) = 99 := rfl
    rw [e] at a
    have : q.1 / 99 = 0 := Int.ediv_eq_zero_of_lt (by omega) (by omega)
    rw [decide_eq_false (by omega)]
  · have me : ms.isEmpty = false := by cases h : ms with | nil => exact absurd h zm | cons a l => rfl
    have bel : ∀ q ∈ ps, belowI ms (q.2 + D) = ((mw ms (q.2 + D) : Nat) : Int) ∧ 1 ≤ ((mw ms (q.2 + D) : Nat) : Int) := fun q hq => by
      have b := g.2 q hq
      have := below_pos gm (n := q.2 + D) (by omega) (by omega)
      have e : belowI ms (q.2 + D) = ((mw ms (q.2 + D) : Nat) : Int) := if_neg zm
      exact ⟨e, by rw [← e]; exact this.1⟩
    have iff : ∀ q ∈ ps, ((k : Int) * ((mw ms (q.2 + D) : Nat) : Int) ≤ q.1 ↔ (k : Int) ≤ q.1 / belowI ms (q.2 + D)) := fun q hq => by
      obtain ⟨e, p⟩ := bel q hq
      rw [e]
      exact (Int.le_ediv_iff_mul_le (by omega)).symm
    rw [Bool.eq_iff_iff, decide_eq_true_eq]
    unfold keepB
    rw [List.all_eq_true]
    constructor
    · intro h
      rcases hor with e | ⟨q, hq, e⟩
      · omega
      · have := h q hq
        rw [pb q hq, Bool.and_eq_true, decide_eq_true_eq] at this
        rw [e]
        exact (iff q hq).mp this.2
    · intro h q hq
      rw [pb q hq, me, Bool.not_false, Bool.true_and, decide_eq_true_eq]
      exact (iff q hq).mpr (Int.le_trans h (hle q hq))
theorem cnt7 {ls : List (Int × Int)} (h0 : ls ≠ []) (g : Lm ls) {ts : List Int} (sr : SRow ls [1] [] 0 ts) (hl : ts.length = 7) {e q : Int} (e1 : 1 ≤ e) (q0 : 0 ≤ q) (q6 : q ≤ 6) : q / (((ts.filter fun t => decide (t < e)).length : Nat) : Int) = q / ((mw ls e : Nat) : Int) ∧ 1 ≤ (ts.filter fun t => decide (t < e)).length := by
  obtain ⟨mst, _⟩ := mw_spec h0 g (show 0 ≤ e by omega)
  have pos := mw_pos h0 (fun p hp => (g.2 p hp).1) e1 mst
  by_cases z : mw ls e ≤ 7
  · have := below_count sr mst (by omega)
    rw [this]
    exact ⟨rfl, pos⟩
  · obtain ⟨us, sru, lu, hlt, _⟩ := mst
    have pre := srow_prefix sr sru (by omega)
    have all : ts.filter (fun t => decide (t < e)) = ts := List.filter_eq_self.mpr fun t ht => decide_eq_true (hlt t (by rw [← pre] at ht; exact List.mem_of_mem_take ht))
    rw [all, hl]
    refine ⟨?_, by decide⟩
    rw [Int.ediv_eq_zero_of_lt q0 (by omega), Int.ediv_eq_zero_of_lt q0 (by omega)]
theorem odall_rep {H : Hp} {x : V} {d : PyData} (h : Od H x d) : ∀ n : Nat, OdAll H (List.replicate n x) (List.replicate n d)
  | 0 => .nil
  | n + 1 => .cons h (odall_rep h n)
theorem come_facts {l : List Int} (h : ∀ x ∈ l, 0 ≤ x ∧ x < 10 ^ 10) (n : l.length ≤ 360) : (PyData.tuple (l.map PyData.int)).showable = true ∧ (PyData.tuple (l.map PyData.int)).depth ≤ 60 ∧ (PyData.tuple (l.map PyData.int)).shown.length ≤ sizeLine :=
  (small_tup (k := 2) (s := 11) fun d hd => by
    obtain ⟨x, hx, rfl⟩ := List.mem_map.mp hd
    exact small_int (h x hx).1 (h x hx).2).facts (by decide) (by rw [List.length_map]; omega)
theorem perm_one {a b l : List Int} (ha : a.Perm l) (hb : b.Perm l) (pa : a.Pairwise (· ≤ ·)) (pb : b.Pairwise (· ≤ ·)) : a = b :=
  (ha.trans hb.symm).eq_of_pairwise (fun _ _ _ _ h1 h2 => Int.le_antisymm h1 h2) pa pb
def spOneMore {K : PySem.W.Frag} {mg : Str → Option Value} (T : D K mg) : Sp := fun vs H Q _ => ∃ (lv sv : V) (D : Int) (ls ps : List (Int × Int)), vs = [lv, .int D, sv] ∧ Od H lv (limP ls) ∧ Lm ls ∧ ls ≠ [] ∧ Od H sv (limP ps) ∧ Lm ps ∧ ps ≠ [] ∧ 0 ≤ D ∧ D ≤ 24 ∧ Tb (tabs T) H ∧ ∀ H', UpL (tabs T) H H' → Q (.bl true) H'
section
variable {P : Program} {w : World} {K : PySem.W.Frag} {mg : Str → Option Value} {base : Heap} {C : Addr}
theorem sc_onem : FnScope ["_law_pairs", "_law_delay", "_law_shares", "_law_top", "_law_pair", "_law_asks", "_law_broken", "_law_come_here", "_law_row", "_law_time"] ["_law_pairs", "_law_delay", "_law_shares"] (defScope s_l_one_more_right) := ⟨rfl, rfl, rfl, by decide +kernel, rfl, by decide +kernel, by decide +kernel⟩
theorem ok_onem (T : D K mg) (TB : Tabs base T) (hM : SysM K) : FnQ P w K mg base CX0 9 T.f_l_one_more_right T.d_l_one_more_right ["_law_pairs", "_law_delay", "_law_shares"] (spOneMore T) := by
  refine funQ T.U_l_one_more_right sc_onem (fun vs H Q E h => ?_) (fun cdv A outer s H vs Q E hgu hr h => ?_)
  · obtain ⟨lv, sv, D, ls, ps, rfl, _⟩ := h
    rfl
  · obtain ⟨lv, sv, D, ls, ps, rfl, oL, gl, l0, oS, gp, p0, d0, d24, hT, k⟩ := h
    have nd := sc_onem.nd
    have hu64 : (A.deeper (envOfC "_law_one_more_right" (defScope s_l_one_more_right) s.heap.objs.size T.f_l_one_more_right cdv)).units + 64 < cLine := hr.units
    have mz : 5000 ≤ sizeLine := by decide
    refine ⟨_, pss_cons (ps_set (i := 3) nd rfl (.inl rfl) pe_int)
      (pss_cons (ps_for PassesOwn.never rfl (pi_tup (pv 2)) (pg_name (i := 4) nd rfl (.inr rfl))
        (pss_cons (ps_set (i := 5) nd rfl (.inl rfl) (pe_call (ok_soon T) (hr.mono (by decide)) rfl T.g_l_soonest T.U_l_soonest.kp T.b_l_soonest .nil pass0 (pa_cons (pv 0) (pa_cons (pe_tup (pa_cons pe_int pa_nil)) (pa_cons (pe_tup pa_nil) (pa_cons pe_int (pa_cons pe_int pa_nil)))))))
        (pss_one (ps_set (i := 3) nd rfl (.inl rfl) (pe_callB (call_min2 rfl) (by rfl) T.min boot_min (pa_cons (pv 3) (pa_cons (pe_op op_fdivN (pe_ix ix_tup (pv 4) pe_int (fun _ _ => rfl)) (pe_callB call_len_seq (by rfl) T.len PySem.boot_len (pa_cons (pe_lc (own := [("_law_time", 9)]) (g := gName 9) rfl nd (pi_list (pv 5)) (blkOk_by (N := ["_law_pairs", "_law_delay", "_law_shares", "_law_top", "_law_pair", "_law_asks", "_law_broken", "_law_come_here", "_law_row", "_law_time"]) (sc := defScope s_l_one_more_right) (by decide +kernel)) (fun _ _ _ _ _ => pg_name (i := 9) nd rfl (.inl rfl)) (fun _ _ _ _ _ => (pts_one (pt_cmpR op_lt (pv 9) (pe_op op_add (pe_ix ix_tupB (pv 4) pe_int (fun _ _ => rfl)) (pv 1)) (nomark _)))) (fun _ _ _ _ _ => pv 9)) pa_nil))) pa_nil)))))))
      (pss_cons (ps_if (PW.pt (pw_or (pt_cmpR op_ne (pe_callB (call_reprD hgu hu64 hM) (by rfl) T.repr (by decide +kernel) (pa_cons (pe_call (ok_mc T TB) hr rfl T.g_most_crawlers T.U_most_crawlers.kp T.b_most_crawlers .nil pass0 (pa_cons (pv 0) (pa_cons (pv 1) (pa_cons (pv 2) pa_nil)))) pa_nil)) (pe_callB (call_reprD hgu hu64 hM) (by rfl) T.repr (by decide +kernel) (pa_cons (pv 3) pa_nil)) (nomark _)) (pw_or1 (pt_cmpR op_eq (pv 3) pe_int (nomark _)))))
        (pss_one (ps_ret (pe_cmpR op_eq (pe_callB (call_reprD hgu hu64 hM) (by rfl) T.repr (by decide +kernel) (pa_cons (pe_call (ok_mc T TB) hr rfl T.g_most_crawlers T.U_most_crawlers.kp T.b_most_crawlers .nil pass0 (pa_cons (pv 0) (pa_cons (pv 1) (pa_cons (pv 2) pa_nil)))) pa_nil)) (pe_callB (call_reprD hgu hu64 hM) (by rfl) T.repr (by decide +kernel) (pa_cons (pv 3) pa_nil)) (nomark _))))
        (pss_nil))
      (pss_cons (ps_set (i := 6) nd rfl (.inl rfl) (pe_call (ok_break T TB) hr rfl T.g_breaking T.U_breaking.kp T.b_breaking .nil pass0 (pa_cons (pe_op op_repA (pe_tup (pa_cons (pe_tup (pa_cons (pv 0) (pa_cons (pv 1) pa_nil))) pa_nil)) (pe_op op_add (pv 3) pe_int)) (pa_cons (pv 2) pa_nil))))
      (pss_cons (ps_if (PW.pt (pw_or (pt_not (pt_val (pe_callB call_isi (by rfl) T.isinstance (by decide +kernel) (pa_cons (pv 6) (pa_cons (pe_bltn (v := .ty "tuple") (by rfl) T.tuple (by decide +kernel) rfl) pa_nil))))) (pw_or1 (pt_cmpR op_ne (pe_callB call_len_seq (by rfl) T.len PySem.boot_len (pa_cons (pv 6) pa_nil)) (pe_op op_add (pv 3) pe_int) (nomark _)))))
        (pss_one (ps_ret pe_bl))
        (pss_nil))
      (pss_cons (ps_if (pt_cmpR (op_neD hu64) (pe_lc (own := [("_law_row", 8)]) (g := gName 8) rfl nd (pi_tup (pv 6)) (blkOk_by (N := ["_law_pairs", "_law_delay", "_law_shares", "_law_top", "_law_pair", "_law_asks", "_law_broken", "_law_come_here", "_law_row", "_law_time"]) (sc := defScope s_l_one_more_right) (by decide +kernel)) (fun _ _ _ _ _ => pg_name (i := 8) nd rfl (.inl rfl)) (fun _ _ _ _ _ => (pts_one (pt_not (pt_val (pe_call (ok_formed T) (hr.mono (by decide)) rfl T.g_l_row_formed T.U_l_row_formed.kp T.b_l_row_formed .nil pass0 (pa_cons (pv 0) (pa_cons (pv 1) (pa_cons (pv 8) pa_nil)))))))) (fun _ _ _ _ _ => pv 8)) (pe_lst pa_nil) (nomark _))
        (pss_one (ps_ret pe_bl))
        (pss_nil))
      (pss_cons (ps_set (i := 7) nd rfl (.inl rfl) (pe_call (ok_come T) (hr.mono (by decide)) rfl T.g_l_come T.U_l_come.kp T.b_l_come .nil pass0 (pa_cons (pv 6) pa_nil)))
      (pss_cons (ps_if (pt_cmpR op_ne (pe_callB (call_reprD hgu hu64 hM) (by rfl) T.repr (by decide +kernel) (pa_cons (pe_call (ok_arr T TB) hr rfl T.g_arrivals T.U_arrivals.kp T.b_arrivals .nil pass0 (pa_cons (pe_op op_repA (pe_tup (pa_cons (pe_tup (pa_cons (pv 0) (pa_cons (pv 1) pa_nil))) pa_nil)) (pe_op op_add (pv 3) pe_int)) (pa_cons (pv 6) pa_nil))) pa_nil)) (pe_callB (call_reprD hgu hu64 hM) (by rfl) T.repr (by decide +kernel) (pa_cons (pv 7) pa_nil)) (nomark _))
        (pss_one (ps_ret pe_bl))
        (pss_nil))
      (pss_one (ps_ret (pe_cmpR op_notN (pe_call (ok_lwat T) (hr.mono (by decide)) rfl T.g_l_wrong_at T.U_l_wrong_at.kp T.b_l_wrong_at .nil pass0 (pa_cons (pv 2) (pa_cons (pe_tup (pa_cons pe_int pa_nil)) (pa_cons (pv 7) pa_nil)))) pe_non (nomark _))))))))))), ?_⟩
    obtain ⟨sa, sl, rfl, es, os⟩ := od_tup oS
    have lsl : sl.length = ps.length := by rw [os.len, List.length_map, List.length_map]
    have bel : ∀ q : Int × Int, belowI ls (q.2 + D) = ((mw ls (q.2 + D) : Nat) : Int) := fun q => if_neg l0
    refine gn ?_
    dsimp only
    refine ⟨_, rfl, sa, rfl, ⟨_, SqT.of es⟩, for_tup (K := K) (a := sa) (xs := sl) (fun j σ Hx => Same H Hx ∧ ∃ (tp : Int) (v4 v5 : Option V), 0 ≤ tp ∧ tp ≤ 6 ∧ (∀ q ∈ ps.take j, tp ≤ q.1 / belowI ls (q.2 + D)) ∧ (tp = 6 ∨ ∃ q ∈ ps.take j, tp = q.1 / belowI ls (q.2 + D)) ∧ σ = [some lv, some (.int D), some (.ref sa), some (.int tp), v4, v5, none, none, none, none]) ⟨.refl _, 6, none, none, by decide, by decide, (fun _ h => nomatch h), .inl rfl, rfl⟩ (fun j σ Hx _ q => SqT.of (q.1 _ _ es)) ?_ ?_⟩
    · rintro j x σ Hx hx ⟨sx, tp, v4, v5, t0, t6, hle, hor, rfl⟩
      obtain ⟨q, b, hqm, rfl, eb⟩ := pair_at os hx
      have hq := gp.2 q (List.mem_of_getElem? hqm)
      have et : ps.take (j + 1) = ps.take j ++ [q] := by rw [List.take_add_one, hqm]; rfl
      refine gn ?_
      dsimp only
      refine ⟨_, rfl, by show 1 ≤ sizeLine; omega, fun z1 hz1 => ⟨by show 0 ≤ sizeLine; omega, fun z2 hz2 => ?_⟩⟩
      have s1 := same_upd (o := HO.tup [V.int 1]) hz1
      have s2 := same_upd (o := HO.tup []) hz2
      have s12 := sx.trans (s1.trans s2)
      refine ⟨lv, .ref z1, z2, 7, 0, ls, [1], [], rfl, oL.same s12, fun q hq => by have := gl.2 q hq; omega, .tup (s2 _ _ upd_same) (.cons (.int 1) .nil), by decide, ⟨0, Nat.zero_lt_one, rfl⟩, .inr (SqT.of upd_same), by decide, by decide, by decide, fun z ts H3 s3 hz ez lts sr => gn ?_⟩
      have lts : ts.length = 7 := lts
      have s03 := s12.trans s3
      have eb3 := s03 _ _ eb
      dsimp only
      refine ⟨_, rfl, _, rfl, b, _, 0, _, rfl, rfl, SqT.of eb3, rfl, _, rfl, z, rfl, ⟨_, SqL.of ez⟩, fun D3 h3 => lc_list (K := K) (a := z) (xs := ts.map V.int) (fun j Hy => Same H3 Hy ∧ Hy D3 = some (.lst (((ts.take j).filter fun x => decide (x < q.2 + D)).map V.int))) ⟨same_upd h3, upd_same⟩ (fun j Hy _ q => SqL.of (q.1 _ _ ez)) ?_ ?_⟩
      · rintro j x Hy hx' ⟨sy, ey⟩
        rw [List.getElem?_map] at hx'
        obtain ⟨u, hu, rfl⟩ := Option.map_eq_some_iff.mp hx'
        have et : ts.take (j + 1) = ts.take j ++ [u] := by rw [List.take_add_one, hu]; rfl
        refine ⟨rfl, ?_⟩
        refine ⟨_, rfl, _, rfl, b, _, 1, _, rfl, rfl, SqT.of (sy _ _ eb3), rfl, _, rfl, _, _, rfl, rfl, _, _, rfl, rfl, _, rfl, ite2 (fun h => ?_) (fun h => ?_)⟩
        · refine ⟨_, rfl, _, ey, ?_, same_into h3 sy, ?_⟩
          · rw [List.length_map]
            have := List.length_filter_le (fun x => decide (x < q.2 + D)) (ts.take j)
            rw [List.length_take] at this
            omega
          · rw [upd_same, et, List.filter_append, List.map_append, List.filter_cons_of_pos (by exact h)]
            rfl
        · refine ⟨sy, ?_⟩
          rw [ey, et, List.filter_append, List.filter_cons_of_neg (by exact h), List.filter_nil, List.append_nil]
      · rintro Hy ⟨sy, ey⟩
        rw [List.length_map, List.take_of_length_le (Nat.le_refl _)] at ey
        obtain ⟨c1, c2⟩ := cnt7 l0 gl sr lts (e := q.2 + D) (q := q.1) (by omega) (by omega) (by omega)
        refine ⟨D3, _, rfl, .inl (SqL.of ey), ?_⟩
        rw [List.length_map]
        have c7 := List.length_filter_le (fun x => decide (x < q.2 + D)) ts
        rw [lts] at c7
        refine ⟨q.1, _, rfl, rfl, ⟨by omega, by omega⟩, _, _, rfl, gn ?_⟩
        rw [Int.fdiv_eq_ediv_of_nonneg _ (by omega), c1, ← bel q]
        have dpos : 0 ≤ q.1 / belowI ls (q.2 + D) := Int.ediv_nonneg (by omega) (by rw [bel q]; omega)
        refine ⟨s03.trans sy, _, _, _, ?_, ?_, fun q' hq' => ?_, ?_, rfl⟩
        · split <;> omega
        · split <;> omega
        · rw [et] at hq'
          rcases List.mem_append.mp hq' with h | h
          · have := hle q' h
            split <;> omega
          · rw [List.mem_singleton.mp h]
            split <;> omega
        · rw [et]
          split
          · exact .inr ⟨q, List.mem_append_right _ (List.mem_singleton.mpr rfl), rfl⟩
          · rcases hor with h | ⟨q', h1, h2⟩
            · exact .inl h
            · exact .inr ⟨q', List.mem_append_left _ h1, h2⟩
    · rintro σ Hx ⟨sx, tp, v4, v5, t0, t6, hle, hor, rfl⟩
      rw [lsl, List.take_length] at hle hor
      have hmw : ∀ q ∈ ps, 1 ≤ ((mw ls (q.2 + D) : Nat) : Int) := fun q hq => by
        have b := gp.2 q hq
        have := below_pos gl (n := q.2 + D) (by omega) (by omega)
        rw [← bel q]
        exact this.1
      have one : ∀ m : Int, m ∈ (ps.map fun p => p.1 / ((mw ls (p.2 + D) : Nat) : Int)) → (∀ y ∈ (ps.map fun p => p.1 / ((mw ls (p.2 + D) : Nat) : Int)), m ≤ y) → m = tp := fun m hm hml => by
        obtain ⟨q, hq, rfl⟩ := List.mem_map.mp hm
        have a := hle q hq
        rw [bel q] at a
        rcases hor with h | ⟨q', h1, h2⟩
        · have b := gp.2 q hq
          have := Int.ediv_le_self (a := q.1) ((mw ls (q.2 + D) : Nat) : Int) (by omega)
          omega
        · have := hml _ (List.mem_map.mpr ⟨q', h1, rfl⟩)
          rw [bel q'] at h2
          omega
      have u1 : UpL (tabs T) H Hx := .same hT sx
      obtain ⟨w1, w2, w3⟩ := (small_int (i := tp) t0 (by omega)).facts (by decide) (by decide)
      refine ⟨_, rfl, _, rfl, _, rfl, lv, .ref sa, D, ls, ps, rfl, oL.same sx, gl, d0, d24, oS.same sx, gp, u1.1, fun z => absurd z p0, fun _ z => absurd z l0, fun _ _ m H4 hm hml u4 => ?_⟩
      rw [one m hm hml]
      have u14 := u1.trans u4
      have st4 := u14.stay hT
      refine ⟨_, .int tp, rfl, .int _, w1, w2, w3, _, rfl, _, .int tp, rfl, .int _, w1, w2, w3, rfl, _, rfl, ?_⟩
      rw [decide_eq_true rfl]
      refine iteF ?_
      refine ⟨_, rfl, rfl, _, rfl, ?_⟩
      by_cases z6 : tp = 6
      · subst z6
        rw [decide_eq_true rfl]
        refine iteT ?_
        refine ⟨_, rfl, _, rfl, _, rfl, lv, .ref sa, D, ls, ps, rfl, oL.stay st4, gl, d0, d24, oS.stay st4, gp, u14.1, fun z => absurd z p0, fun _ z => absurd z l0, fun _ _ m H5 hm hml u5 => ?_⟩
        rw [one m hm hml]
        refine ⟨_, .int 6, rfl, .int _, w1, w2, w3, _, rfl, _, .int 6, rfl, .int _, w1, w2, w3, rfl, ?_⟩
        rw [decide_eq_true rfl]
        exact k _ (u14.trans u5)
      · rw [decide_eq_false (fun e => z6 (by injection e))]
        refine iteF (next_of ?_)
        dsimp only
        obtain ⟨kk, hkk⟩ : ∃ kk : Nat, tp + 1 = (kk : Nat) := ⟨(tp + 1).toNat, by omega⟩
        have hk1 : 1 ≤ kk := by omega
        have hk6 : kk ≤ 6 := by omega
        have hkeep : keepB (List.replicate kk (ls, D)) ps = false := by
          rw [keep_rep gl gp d0 d24 p0 hk1 hk6 hle hor]
          exact decide_eq_false (by omega)
        have hpart : ∀ c ∈ List.replicate kk (ls, D), PartOk c := fun c hc => by
          rw [List.eq_of_mem_replicate hc]
          exact ⟨gl, d0, d24⟩
        have hlen : (List.replicate kk (ls, D)).length = kk := List.length_replicate
        have hmap : (List.replicate kk (ls, D)).map partP = List.replicate kk (partP (ls, D)) := List.map_replicate
        refine ⟨_, rfl, _, rfl, by show 2 ≤ sizeLine; omega, fun y1 hy1 => ⟨by show 1 ≤ sizeLine; omega, fun y2 hy2 => ?_⟩⟩
        have sy1 := same_upd (o := HO.tup [lv, V.int D]) hy1
        have sy2 := same_upd (o := HO.tup [V.ref y1]) hy2
        have oP1 : Od (upd H4 y1 (.tup [lv, V.int D])) (.ref y1) (partP (ls, D)) := .tup upd_same (.cons ((oL.stay st4).same sy1) (.cons (.int _) .nil))
        have oP2 := oP1.same sy2
        have u5 := u14.trans (.same u14.1 (sy1.trans sy2))
        have e2 : upd (upd H4 y1 (.tup [lv, V.int D])) y2 (.tup [V.ref y1]) y2 = some (.tup [V.ref y1]) := upd_same
        generalize upd (upd H4 y1 (.tup [lv, V.int D])) y2 (.tup [V.ref y1]) = H5 at *
        refine ⟨_, rfl, _, _, rfl, rfl, ?_⟩
        change rRepA _ _ (V.int (tp + 1)) H5 _
        rw [hkk]
        refine rep_tt (n := kk) (by omega) e2 fun cr H6 s6 ecr => ?_
        have u6 := u5.trans (.same u5.1 s6)
        have st6 := u6.stay hT
        have oC : Od H6 (.ref cr) (.tuple ((List.replicate kk (ls, D)).map partP)) := by
          rw [hmap]
          exact .tup ecr (odall_rep (oP2.same s6) kk)
        refine ⟨_, rfl, .ref cr, .ref sa, List.replicate kk (ls, D), ps, rfl, oC, by omega, by omega, hpart, oS.stay st6, gp, u6.1, (fun z => by rw [hkeep] at z; cases z), fun _ bz H7 q M rows hq hpb hM M0 M24 br oB u7 => gn ?_⟩
        have hqq := gp.2 q hq
        have rok := breaks_ok hpart hM M24 (by omega) (by omega) br
        have rlen : rows.length = kk := by rw [rok.1, hlen]
        have u67 := u6.trans u7
        have st7 := u67.stay hT
        obtain ⟨ba, bl, rfl, eb, ob⟩ := od_tup oB
        have lbl : bl.length = rows.length := by rw [ob.len, List.length_map]
        have rowAt : ∀ (i : Nat) (h : i < rows.length), RowOk (ls, D) rows[i] := fun i h => by
          have := rok.2 i h (by rw [hlen, ← rlen]; exact h)
          rw [List.getElem_replicate] at this
          exact this
        have rowIn : ∀ qs ∈ rows, RowOk (ls, D) qs := fun qs h => by
          obtain ⟨i, hi, rfl⟩ := List.getElem_of_mem h
          exact rowAt i hi
        dsimp only
        refine ⟨_, rfl, _, _, _, _, _, rfl, .ty _, .base (.tup eb), kTup (.tuple (rows.map limP)), true, rfl, iteF ?_⟩
        refine ⟨_, rfl, ba, _, rfl, .inr (SqT.of eb), ?_⟩
        refine ⟨_, rfl, _, _, rfl, rfl, rfl, _, rfl, ?_⟩
        have lb : ((bl.length : Nat) : Int) = tp + 1 := by rw [lbl, rlen, hkk]
        rw [lb]
        dsimp only
        rw [decide_eq_true rfl]
        refine iteF (next_of ?_)
        refine ⟨_, rfl, ba, rfl, ⟨_, SqT.of eb⟩, fun D5 h5 => lc_tup (K := K) (a := ba) (xs := bl) (fun j Hx => Same H7 Hx ∧ Hx D5 = some (.lst [])) ⟨same_upd h5, upd_same⟩ (fun j Hx _ z => SqT.of (z.1 _ _ eb)) ?_ ?_⟩
        · rintro j x Hx hx ⟨sx, ex⟩
          obtain ⟨d, hdm, od⟩ := od_at ob hx
          rw [List.getElem?_map] at hdm
          obtain ⟨r, hrm, rfl⟩ := Option.map_eq_some_iff.mp hdm
          refine ⟨rfl, ?_⟩
          refine ⟨_, rfl, _, rfl, _, rfl, lv, x, ls, D, r, rfl, (oL.stay st7).same sx, ⟨gl, d0, d24⟩, od.same sx, rowIn r (List.mem_of_getElem? hrm), fun H8 s8 => ⟨_, rfl, ?_⟩⟩
          exact ⟨sx.trans s8, s8 _ _ ex⟩
        · rintro Hx ⟨sx, ex⟩
          refine ⟨by show 0 ≤ sizeLine; omega, fun D6 h6 => ?_⟩
          have s6 := same_upd (o := HO.lst []) h6
          have ex6 := s6 _ _ ex
          refine ⟨_, _, .lst (SqL.of ex6) .nil, .lst (SqL.of upd_same) .nil, shaped_nums [], shaped_nums [], ?_⟩
          have e0 : (PyData.list []).eqv (PyData.list []) = true := eqv_nums []
          rw [e0]
          refine ⟨false, rfl, iteF (next_of ?_)⟩
          have s7 := sx.trans s6
          generalize upd Hx D6 (HO.lst []) = H8 at *
          have u8 := u67.trans (.same u67.1 s7)
          have st8 := u8.stay hT
          have oR8 : Od H8 (.ref ba) (.tuple (rows.map limP)) := (Od.tup eb ob).same s7
          have r200 : ∀ qs ∈ rows, qs.length ≤ 200 := fun qs h => by have := (rowIn qs h).len; omega
          refine ⟨_, rfl, .ref ba, rows, rfl, oR8, by omega, r200, fun z9 ms H9 s9 hz9 hperm hpw => gn ?_⟩
          dsimp only
          have u9 := u8.trans (.same u8.1 s9)
          have st9 := u9.stay hT
          have msb : ∀ x ∈ ms, 0 ≤ x ∧ x ≤ 10000 := fun x hx => by
            have hx := hperm.mem_iff.mp hx
            unfold comeL at hx
            obtain ⟨qs, hqs, hx⟩ := List.mem_flatMap.mp hx
            obtain ⟨p, hp, rfl⟩ := List.mem_map.mp hx
            have r := rowIn qs hqs
            refine ⟨?_, r.big p hp⟩
            obtain ⟨i, hi, e⟩ := List.getElem_of_mem (List.mem_map.mpr ⟨p, hp, rfl⟩ : p.2 ∈ qs.map (·.2))
            rw [← e]
            exact asc_get r.come i hi
          have ml : ms.length ≤ 360 := by
            rw [hperm.length_eq, come_len]
            have : ∀ l : List (List (Int × Int)), (∀ qs ∈ l, qs.length ≤ 60) → (l.map fun qs => qs.length).sum ≤ 60 * l.length := fun l => by
              induction l with
              | nil => exact fun _ => Nat.le_refl _
              | cons a l ih =>
                intro h
                rw [List.map_cons, List.sum_cons, List.length_cons]
                have := ih fun qs hq => h qs (List.mem_cons_of_mem _ hq)
                have := h a List.mem_cons_self
                omega
            have := this rows fun qs h => (rowIn qs h).len
            omega
          refine ⟨_, rfl, _, rfl, by show 2 ≤ sizeLine; omega, fun y3 hy3 => ⟨by show 1 ≤ sizeLine; omega, fun y4 hy4 => ?_⟩⟩
          have sy3 := same_upd (o := HO.tup [lv, V.int D]) hy3
          have sy4 := same_upd (o := HO.tup [V.ref y3]) hy4
          have e4 : upd (upd H9 y3 (.tup [lv, V.int D])) y4 (.tup [V.ref y3]) y4 = some (.tup [V.ref y3]) := upd_same
          have oP3 : Od (upd H9 y3 (.tup [lv, V.int D])) (.ref y3) (partP (ls, D)) := .tup upd_same (.cons ((oL.stay st9).same sy3) (.cons (.int _) .nil))
          have oP4 := oP3.same sy4
          have u10 := u9.trans (.same u9.1 (sy3.trans sy4))
          have oR10 := (oR8.same s9).same (sy3.trans sy4)
          have z10 := (sy3.trans sy4)
          generalize upd (upd H9 y3 (.tup [lv, V.int D])) y4 (.tup [V.ref y3]) = H10 at *
          refine ⟨_, rfl, _, _, rfl, rfl, ?_⟩
          change rRepA _ _ (V.int (tp + 1)) H10 _
          rw [hkk]
          refine rep_tt (n := kk) (by omega) e4 fun cr2 H11 s11 ecr2 => ?_
          have u11 := u10.trans (.same u10.1 s11)
          have oC2 : Od H11 (.ref cr2) (.tuple ((List.replicate kk (ls, D)).map partP)) := by
            rw [hmap]
            exact .tup ecr2 (odall_rep (oP4.same s11) kk)
          refine ⟨_, rfl, .ref cr2, .ref ba, List.replicate kk (ls, D), rows, rfl, oC2, by omega, by omega, hpart, oR10.same s11, rok, u11.1, fun za ma H12 u12 hza pa1 pa2 => ?_⟩
          have ema : ma = ms := perm_one pa1 hperm pa2 hpw
          subst ema
          have u12' := u11.trans u12
          have st12 := ((UpL.same u9.1 z10).trans ((UpL.same u10.1 s11).trans u12)).stay u9.1
          obtain ⟨f1, f2, f3⟩ := come_facts (l := ma) (fun x hx => by have := msb x hx; omega) ml
          refine ⟨_, _, rfl, hza.od.dq, f1, f2, f3, _, rfl, _, _, rfl, (hz9.od.stay st12).dq, f1, f2, f3, rfl, _, rfl, ?_⟩
          rw [decide_eq_true rfl]
          refine iteF (next_of ?_)
          have st12' := u12'.stay hT
          refine ⟨_, rfl, by show 1 ≤ sizeLine; omega, fun y5 hy5 => ?_⟩
          have s13 := same_upd (o := HO.tup [V.int 1]) hy5
          have oz := hz9.od.stay st12
          refine ⟨_, rfl, .ref sa, .ref y5, z9, ps, [1], ma, rfl, (oS.stay st12').same s13, fun p hp => by have := gp.2 p hp; omega, .tup upd_same (.cons (.int 1) .nil), Nat.zero_lt_one, oz.same s13, srt_of_pairwise hpw, by omega, fun H14 s14 => ?_⟩
          obtain ⟨ix, hix⟩ := breaks_first hpart gp hq hM br hpb hperm hpw
          rw [hix]
          refine ⟨rfl, ?_⟩
          exact k H14 (u12'.trans (.same u12'.1 (s13.trans s14)))
end
end KP
set_option Elab.async false
set_option maxRecDepth 100000
set_option maxHeartbeats 8000000
set_option linter.all false
/-! Ours: what is dealt stays polite. -/
namespace KP
open PySem PySem.Spec PyProof.Rows L2 Gr GxR
theorem passE0 {P : Program} {w : World} {X : Cx} : Passes (L2.CX P w) X E0 := fun _ _ _ _ _ _ _ h => by
  obtain ⟨_, _, _, _, _, _, _, _, _, _, _, _, h⟩ := h
  exact h.elim
theorem od_mv {K : PySem.W.Frag} {mg : Str → Option Value} {T : D K mg} {p : Addr} {H H1 : Hp} (w : Well H p) (m : Mv T p H H1) {v : V} {d : PyData} (o : Od H v d) (t : tupD d = true) : Od H1 v d := o.ts (mv_ts w m) t
theorem tup_parts (cs : List (List (Int × Int) × Int)) : tupD (.tuple (cs.map partP)) = true := tupD_tup fun d hd => by
  obtain ⟨c, _, rfl⟩ := List.mem_map.mp hd
  exact tup_part c
theorem tup_rows (rows : List (List (Int × Int))) : tupD (.tuple (rows.map limP)) = true := tupD_tup fun d hd => by
  obtain ⟨c, _, rfl⟩ := List.mem_map.mp hd
  exact tup_lim c
theorem come_small {rows : List (List (Int × Int))} (l6 : rows.length ≤ 6) (r : ∀ qs ∈ rows, qs.length ≤ 30 ∧ asc 0 (qs.map (·.2)) ∧ ∀ q ∈ qs, q.2 ≤ 10000) {ms : List Int} (hm : ms.Perm (comeL rows)) : (∀ x ∈ ms, 0 ≤ x ∧ x ≤ 10000) ∧ ms.length ≤ 30 * rows.length := by
  refine ⟨fun x hx => ?_, ?_⟩
  · have hx := hm.mem_iff.mp hx
    unfold comeL at hx
    obtain ⟨qs, hqs, hx⟩ := List.mem_flatMap.mp hx
    have a := asc_ge (r qs hqs).2.1 x hx
    obtain ⟨q, hq, rfl⟩ := List.mem_map.mp hx
    exact ⟨a, (r qs hqs).2.2 q hq⟩
  · rw [hm.length_eq, come_len]
    have key : ∀ l : List (List (Int × Int)), (∀ qs ∈ l, qs.length ≤ 30) → (l.map fun qs => qs.length).sum ≤ 30 * l.length := fun l => by
      induction l with
      | nil => intro _; exact Nat.zero_le _
      | cons a l ih =>
        intro h
        have h1 := h a List.mem_cons_self
        have h2 := ih fun qs hq => h qs (List.mem_cons_of_mem _ hq)
        rw [List.map_cons, List.sum_cons, List.length_cons]
        omega
    exact key rows fun qs hq => (r qs hq).1
theorem asc_pw : ∀ {ns : List Int} {m : Int}, (∀ x ∈ ns, m ≤ x) → ns.Pairwise (· ≤ ·) → asc m ns
  | [], _, _, _ => trivial
  | n :: _, _, h, q => ⟨h n List.mem_cons_self, asc_pw (fun _ hx => List.rel_of_pairwise_cons q hx) (List.Pairwise.of_cons q)⟩
theorem true_none : (PyData.list [.bool true, .none]).showable = true ∧ (PyData.list [.bool true, .none]).depth ≤ 60 ∧ (PyData.list [.bool true, .none]).shown.length ≤ sizeLine ∧ (PyData.list [.bool true, .none]).shown = Str.ofString "[True, None]" := ⟨by decide +kernel, by decide +kernel, by decide +kernel, by decide +kernel⟩
theorem true_is : (PyData.bool true).showable = true ∧ (PyData.bool true).depth ≤ 60 ∧ (PyData.bool true).shown.length ≤ sizeLine ∧ (PyData.bool true).shown = Str.ofString "True" := ⟨by decide +kernel, by decide +kernel, by decide +kernel, by decide +kernel⟩
theorem deal_facts {ps : List (Int × Int)} {n D : Int} (h : ∀ l ∈ dealP ps n D, Lm l) (n4 : n ≤ 4) : (PyData.tuple ((dealP ps n D).map limP)).showable = true ∧ (PyData.tuple ((dealP ps n D).map limP)).depth ≤ 60 ∧ (PyData.tuple ((dealP ps n D).map limP)).shown.length ≤ sizeLine :=
  (small_tup (k := 6) (s := 127) fun d hd => by
    obtain ⟨l, hl, rfl⟩ := List.mem_map.mp hd
    exact small_lim (h l hl)).facts (by decide) (by
      have : (dealP ps n D).length = n.toNat := by unfold dealP; rw [List.length_map, List.length_range]
      rw [List.length_map, this]
      have : 5000 ≤ sizeLine := by decide
      omega)
def spRight {K : PySem.W.Frag} {mg : Str → Option Value} (T : D K mg) : Sp := fun vs H Q _ => ∃ p : Addr, vs = [.ref p] ∧ Well H p ∧ Tb (tabs T) H ∧ ∀ H', Mv T p H H' → Q (.bl true) H'
section
variable {P : Program} {w : World} {K : PySem.W.Frag} {mg : Str → Option Value} {base : Heap} {C C2 : Addr}
theorem sc_right : FnScope ["_law_well_here", "_law_number", "_law_delay", "_law_shares", "_law_turn", "_law_due_here", "_law_pairs", "_law_crew", "_law_lines", "_law_asks", "_law_come_here"] ["_law_well_here"] (defScope s_l_right) := ⟨rfl, rfl, rfl, by decide +kernel, rfl, by decide +kernel, by decide +kernel⟩
theorem ok_right (T : D K mg) (TB : Tabs base T) (B : BarF K mg C) (NS : ExcF K mg "NoShare" C2) (hM : SysM K) : FnQ P w K mg base CX0 11 T.f_l_right T.d_l_right ["_law_well_here"] (spRight T) := by
  refine funQ T.U_l_right sc_right (fun vs H Q E h => ?_) (fun cdv A outer s H vs Q E hgu hr h => ?_)
  · obtain ⟨p, rfl, _⟩ := h
    rfl
  · obtain ⟨p, rfl, hp, hT, k⟩ := h
    have nd := sc_right.nd
    have hu64 : (A.deeper (envOfC "_law_right" (defScope s_l_right) s.heap.objs.size T.f_l_right cdv)).units + 64 < cLine := hr.units
    have mz : 5000 ≤ sizeLine := by decide
    have GO : FnQ P w K mg base CX0 9 T.f_l_one_more_right T.d_l_one_more_right ["_law_pairs", "_law_delay", "_law_shares"] (spOneMore T) := ok_onem T TB hM
    refine ⟨_, pss_cons (ps_asg (pe_tup (pa_cons (pe_op op_add pe_int (pe_call (ok_l_pick T) (hr.mono (by decide)) rfl T.g_l_pick T.U_l_pick.kp T.b_l_pick .nil pass0 (pa_cons (pv 0) (pa_cons pe_int pa_nil)))) (pa_cons (pe_call (ok_l_one T) (hr.mono (by decide)) rfl T.g_l_one T.U_l_one.kp T.b_l_one .nil pass0 (pa_cons (pv 0) (pa_cons (pe_lst (pa_cons pe_int (pa_cons pe_int (pa_cons pe_int (pa_cons pe_int (pa_cons pe_int (pa_cons pe_int pa_nil))))))) pa_nil))) pa_nil))) (pg_tup rfl (pgs_cons (pg_name (i := 1) nd rfl (.inl rfl)) (pgs_cons (pg_name (i := 2) nd rfl (.inr rfl)) pgs_nil))))
      (pss_cons (ps_set (i := 3) nd rfl (.inl rfl) (pe_lst pa_nil))
      (pss_cons (ps_for PassesOwn.never rfl (pi_range1 rfl T.range (pa_cons (pe_call (ok_l_one T) (hr.mono (by decide)) rfl T.g_l_one T.U_l_one.kp T.b_l_one .nil pass0 (pa_cons (pv 0) (pa_cons (pe_lst (pa_cons pe_int (pa_cons pe_int (pa_cons pe_int (pa_cons pe_int pa_nil))))) pa_nil))) pa_nil)) (pg_name (i := 4) nd rfl (.inl rfl))
        (pss_one (ps_expr (pe_bm PySem.F.plainAttrs_list PySem.F.slot_list_append PySem.F.type_list_append mt_append (pv 3) (pa_cons (pe_tup (pa_cons (pe_op op_add (pv 1) (pe_call (ok_l_pick T) (hr.mono (by decide)) rfl T.g_l_pick T.U_l_pick.kp T.b_l_pick .nil pass0 (pa_cons (pv 0) (pa_cons (pe_op op_sub pe_int (pv 1)) pa_nil)))) (pa_cons (pe_op op_add pe_int (pe_call (ok_l_pick T) (hr.mono (by decide)) rfl T.g_l_pick T.U_l_pick.kp T.b_l_pick .nil pass0 (pa_cons (pv 0) (pa_cons (pe_op op_sub pe_int (pv 2)) pa_nil)))) pa_nil))) pa_nil)))))
      (pss_cons (ps_set (i := 3) nd rfl (.inl rfl) (pe_callTy call_tuple_of (by rfl) T.tuple (by decide +kernel) (pa_cons (pv 3) pa_nil)))
      (pss_cons (ps_set (i := 5) nd rfl (.inl rfl) (pe_call (ok_due T) (hr.mono (by decide)) rfl T.g_l_due T.U_l_due.kp T.b_l_due .nil pass0 (pa_cons (pv 3) (pa_cons (pv 1) (pa_cons (pv 2) pa_nil)))))
      (pss_cons (ps_if (pt_cmpR op_ne (pe_callB (call_reprD hgu hu64 hM) (by rfl) T.repr (by decide +kernel) (pa_cons (pe_call (ok_dealt T TB NS) (hr.mono (by decide)) rfl T.g_dealt T.U_dealt.kp T.b_dealt .nil passE0 (pa_cons (pv 3) (pa_cons (pv 1) (pa_cons (pv 2) pa_nil)))) pa_nil)) (pe_callB (call_reprD hgu hu64 hM) (by rfl) T.repr (by decide +kernel) (pa_cons (pv 5) pa_nil)) (nomark _))
        (pss_one (ps_ret pe_bl))
        (pss_nil))
      (pss_cons (ps_set (i := 7) nd rfl (.inl rfl) (pe_callTy call_tuple_of (by rfl) T.tuple (by decide +kernel) (pa_cons (pe_lc (own := [("_law_pairs", 6)]) (g := gName 6) (tt := tYes) rfl nd (pi_tup (pv 5)) (blkOk_by (N := ["_law_well_here", "_law_number", "_law_delay", "_law_shares", "_law_turn", "_law_due_here", "_law_pairs", "_law_crew", "_law_lines", "_law_asks", "_law_come_here"]) (sc := defScope s_l_right) (by decide +kernel)) (fun _ _ _ _ _ => pg_name (i := 6) nd rfl (.inl rfl)) (fun _ _ _ _ _ => pts_nil) (fun _ _ _ _ _ => pe_tup (pa_cons (pv 6) (pa_cons (pv 2) pa_nil)))) pa_nil)))
      (pss_cons (ps_if (pt_cmpR op_ne (pe_callB (call_reprD hgu hu64 hM) (by rfl) T.repr (by decide +kernel) (pa_cons (pe_lst (pa_cons (pe_call (ok_keep T TB) (hr.mono (by decide)) rfl T.g_keep T.U_keep.kp T.b_keep .nil pass0 (pa_cons (pv 7) (pa_cons (pv 3) pa_nil))) (pa_cons (pe_call (ok_break T TB) (hr.mono (by decide)) rfl T.g_breaking T.U_breaking.kp T.b_breaking .nil pass0 (pa_cons (pv 7) (pa_cons (pv 3) pa_nil))) pa_nil))) pa_nil)) pe_str (nomark _))
        (pss_one (ps_ret pe_bl))
        (pss_nil))
      (pss_cons (ps_set (i := 8) nd rfl (.inl rfl) (pe_lst pa_nil))
      (pss_cons (ps_for PassesOwn.never rfl (pi_tup (pv 5)) (pg_name (i := 6) nd rfl (.inl rfl))
        (pss_cons (ps_set (i := 9) nd rfl (.inl rfl) (pe_call (ok_sasks T TB B) hr rfl T.g_l_some_asks T.U_l_some_asks.kp T.b_l_some_asks .nil pass0 (pa_cons (pv 0) (pa_cons (pv 6) pa_nil))))
        (pss_cons (ps_if (pt_cmpR op_isN (pv 9) pe_non (nomark _))
          (pss_one (ps_ret pe_bl))
          (pss_nil))
        (pss_one (ps_expr (pe_bm PySem.F.plainAttrs_list PySem.F.slot_list_append PySem.F.type_list_append mt_append (pv 8) (pa_cons (pe_call (ok_late T) (hr.mono (by decide)) rfl T.g_l_late T.U_l_late.kp T.b_l_late .nil pass0 (pa_cons (pv 0) (pa_cons (pv 9) (pa_cons (pv 2) pa_nil)))) pa_nil)))))))
      (pss_cons (ps_set (i := 10) nd rfl (.inl rfl) (pe_call (ok_comeL T) (hr.mono (by decide)) rfl T.g_l_come T.U_l_come.kp T.b_l_come .nil pass0 (pa_cons (pv 8) pa_nil)))
      (pss_cons (ps_if (PW.pt (pw_or (pt_cmpR op_notN (pe_call (ok_lwat T) (hr.mono (by decide)) rfl T.g_l_wrong_at T.U_l_wrong_at.kp T.b_l_wrong_at .nil pass0 (pa_cons (pv 3) (pa_cons (pe_tup (pa_cons pe_int pa_nil)) (pa_cons (pv 10) pa_nil)))) pe_non (nomark _)) (pw_or1 (pt_cmpR op_ne (pe_callB (call_reprD hgu hu64 hM) (by rfl) T.repr (by decide +kernel) (pa_cons (pe_call (ok_polA T TB) (hr.mono (by decide)) rfl T.g_is_polite T.U_is_polite.kp T.b_is_polite .nil pass0 (pa_cons (pe_tup (pa_cons (pv 3) (pa_cons (pe_tup (pa_cons pe_int pa_nil)) pa_nil))) (pa_cons (pv 10) pa_nil))) pa_nil)) pe_str (nomark _)))))
        (pss_one (ps_ret pe_bl))
        (pss_nil))
      (pss_one (ps_ret (pe_and (pe_cmpR op_eq (pe_callB (call_reprD hgu hu64 hM) (by rfl) T.repr (by decide +kernel) (pa_cons (pe_call (ok_arr T TB) (hr.mono (by decide)) rfl T.g_arrivals T.U_arrivals.kp T.b_arrivals .nil pass0 (pa_cons (pv 7) (pa_cons (pe_callTy call_tuple_of (by rfl) T.tuple (by decide +kernel) (pa_cons (pv 8) pa_nil)) pa_nil))) pa_nil)) (pe_callB (call_reprD hgu hu64 hM) (by rfl) T.repr (by decide +kernel) (pa_cons (pv 10) pa_nil)) (nomark _)) (pe_one (pe_callQ hgu GO (hr.mono (by decide)) rfl T.g_l_one_more_right T.U_l_one_more_right.kp T.b_l_one_more_right .nil pass0 (pa_cons (pe_ix ix_tup (pv 5) pe_int (fun _ _ => rfl)) (pa_cons (pv 2) (pa_cons (pv 3) pa_nil))))))))))))))))))), ?_⟩
    -- number and delay
    refine ⟨_, rfl, p, 4, rfl, hp, by decide, by decide, fun r0 H1 r00 r04 w1 b1 => ⟨_, _, rfl, rfl, ?_⟩⟩
    have m1 : Mv T p H H1 := Mv.but hp hT b1 w1
    refine ⟨_, rfl, by show 6 ≤ sizeLine; omega, fun q hq => ?_⟩
    have sq := same_upd (o := HO.lst [V.int 0, V.int 0, V.int 1, V.int 2, V.int 5, V.int 8]) hq
    refine ⟨p, q, _, rfl, w1.same sq, upd_same, well_ne w1 hq, by decide, by decide, fun _ v H2 hv2 w2 b2 => ?_⟩
    obtain ⟨D, rfl, d0, d8⟩ : ∃ D : Int, v = .int D ∧ 0 ≤ D ∧ D ≤ 8 := by
      have hm := List.mem_of_getElem? hv2
      simp only [List.mem_cons, List.not_mem_nil, or_false] at hm
      rcases hm with rfl | rfl | rfl | rfl | rfl | rfl <;> exact ⟨_, rfl, by decide, by decide⟩
    have m2 := (m1.s sq).b b2 w2
    obtain ⟨n, hn, n1, n4⟩ : ∃ n : Int, 1 + r0 = n ∧ 1 ≤ n ∧ n ≤ 4 := ⟨_, rfl, by omega, by omega⟩
    refine ⟨by show 2 ≤ sizeLine; omega, fun y hy => ⟨y, _, rfl, SqT.of upd_same, rfl, _, _, rfl, _, _, rfl, rfl, ?_⟩⟩
    dsimp only [tNil, List.cons_append, List.nil_append, List.append_nil]
    rw [hn]
    have m3 := m2.s (same_upd (o := HO.tup [V.int n, V.int D]) hy)
    generalize upd H2 y (.tup [V.int n, V.int D]) = H3 at *
    clear hn r00 r04 b1 b2 hq hv2 sq m1 m2 hy w1 w2
    refine ⟨by show 0 ≤ sizeLine; omega, fun D1 h1 => gn ?_⟩
    have n1p : D1 ≠ p := well_ne m3.2.1 h1
    have s1 := same_upd (o := HO.lst []) h1
    have m4 := m3.s s1
    dsimp only
    refine ⟨_, rfl, by show 4 ≤ sizeLine; omega, fun q hq => ?_⟩
    have sq := same_upd (o := HO.lst [V.int 1, V.int 1, V.int 2, V.int 3]) hq
    refine ⟨p, q, _, rfl, m4.2.1.same sq, upd_same, well_ne m4.2.1 hq, by decide, by decide, fun _ v H5 hv5 w5 b5 => ?_⟩
    obtain ⟨tn, rfl, tn1, tn3⟩ : ∃ tn : Nat, v = .int (tn : Nat) ∧ 1 ≤ tn ∧ tn ≤ 3 := by
      have hm := List.mem_of_getElem? hv5
      simp only [List.mem_cons, List.not_mem_nil, or_false] at hm
      rcases hm with rfl | rfl | rfl | rfl
      · exact ⟨1, rfl, by decide, by decide⟩
      · exact ⟨1, rfl, by decide, by decide⟩
      · exact ⟨2, rfl, by decide, by decide⟩
      · exact ⟨3, rfl, by decide, by decide⟩
    have mm5 : Mv T p H3 H5 := ((Mv.same m3.2.1 m3.2.2 s1).s sq).b b5 w5
    have eD5 : H5 D1 = some (.lst []) := b5 _ _ (sq _ _ upd_same) n1p
    refine ⟨_, rfl, by omega, by omega, for_range (lo := 0) (n := _) (fun i σ Hx => Mv T p H3 Hx ∧ (∃ us, Hx D1 = some (.lst us) ∧ us.length = i) ∧ ∃ (ps : List (Int × Int)) (v4 : Option V), ps.length = i ∧ (∀ z ∈ ps, n ≤ z.1 ∧ z.1 ≤ 6 ∧ 1 ≤ z.2 ∧ z.2 + D ≤ 12) ∧ LstT Hx D1 ((ps.map inD).map tw) ∧ σ = [some (.ref p), some (.int n), some (.int D), some (.ref D1), v4, none, none, none, none, none, none]) ⟨mm5, ⟨[], eD5, rfl⟩, [], none, rfl, (fun _ h => nomatch h), LstT.at eD5, rfl⟩ ?_ ?_⟩
    · rintro i σ Hx hi ⟨mx, ⟨us, eu, lu⟩, ps, v4, lps, hps, lt, rfl⟩
      refine gn ?_
      dsimp only
      refine ⟨_, rfl, .inl ⟨rfl, _, SqL.of eu⟩, _, rfl, _, rfl, _, rfl, _, _, rfl, rfl, p, 7 - n, rfl, mx.2.1, by omega, by omega, fun a Ha a0 a1 wa ba => ⟨_, _, rfl, rfl, _, rfl, _, rfl, _, _, rfl, rfl, p, 12 - D, rfl, wa, by omega, by omega, fun c Hc c0 c1 wc bc => ⟨_, _, rfl, rfl, by show 2 ≤ sizeLine; omega, fun t ht => ?_⟩⟩⟩
      have tsab : TupStay Hx Hc := fun b xs e => but_ts wa bc _ _ (but_ts mx.2.1 ba _ _ e)
      have mc := (mx.b ba wa).b bc wc
      have st := same_upd (o := HO.tup [V.int (n + a), V.int (1 + c)]) ht
      have et : upd Hc t (.tup [V.int (n + a), V.int (1 + c)]) t = some (.tup [V.int (n + a), V.int (1 + c)]) := upd_same
      have mt := mc.s st
      have ltt := (lt.ts tsab fun vs e => bc _ _ (ba _ _ e n1p) n1p).same st
      have eut := st _ _ (bc _ _ (ba _ _ eu n1p) n1p)
      generalize upd Hc t (.tup [V.int (n + a), V.int (1 + c)]) = Ht at *
      refine ⟨D1, _, _, rfl, rfl, eut, by omega, ?_⟩
      refine ⟨mt.put h1 eut n1p, ⟨_, upd_same, by rw [List.length_append, lu]; rfl⟩, ps ++ [(n + a, 1 + c)], _, by rw [List.length_append, lps]; rfl, fun z hz => ?_, ?_, rfl⟩
      · rcases List.mem_append.mp hz with h | h
        · exact hps z h
        · rw [List.mem_singleton.mp h]
          show n ≤ n + a ∧ n + a ≤ 6 ∧ 1 ≤ 1 + c ∧ 1 + c + D ≤ 12
          omega
      · rw [List.map_append, List.map_append]
        exact ltt.put eut (.tup et (.cons (.int _) (.cons (.int _) .nil))) (tup_pair _)
    · rintro σ Hx ⟨mx, ⟨us, eu, lu⟩, ps, v4, lps, hps, lt, rfl⟩
      have hmx : Mv T p H Hx := m3.trans mx
      have lp : 1 ≤ ps.length ∧ ps.length ≤ 3 := by omega
      have hlm : Lm ps := ⟨by omega, fun q hq => by have := hps q hq; omega⟩
      have htoo : ps.any (tooB n D) = false := List.any_eq_false.mpr fun q hq => by
        have := hps q hq
        unfold tooB
        rw [Bool.or_eq_true, decide_eq_true_eq, decide_eq_true_eq]
        omega
      have p0 : ps ≠ [] := fun z => by rw [z] at lp; exact absurd lp.1 (by decide)
      clear mm5 b5 hv5 eD5 hq sq w5 lu lps tn1 tn3
      refine ⟨_, rfl, D1, _, rfl, .inl ⟨SqL.of eu, fun R hR => gn ?_⟩⟩
      have oS : Od (upd Hx R (.tup us)) (.ref R) (limP ps) := lt.tup eu hR
      have m6 := hmx.s (same_upd (o := HO.tup us) hR)
      generalize upd Hx R (.tup us) = H6 at *
      clear eu hR lt mx hmx m4 s1 n1p h1 m3
      dsimp only
      refine ⟨_, rfl, _, rfl, _, rfl, .ref R, n, D, ps, rfl, oS, hlm, n1, by omega, d0, by omega, fun z H7 s7 oz => ?_⟩
      obtain ⟨da, ds, rfl, ed, od⟩ := od_tup oz
      have m7 := m6.s s7
      have oS7 := oS.same s7
      have hdl := deal_lm hlm n1 d0 htoo
      have ldp : (dealP ps n D).length = n.toNat := by unfold dealP; rw [List.length_map, List.length_range]
      have lds : ds.length = n.toNat := by rw [od.len, List.length_map, ldp]
      obtain ⟨f1, f2, f3⟩ := deal_facts hdl n4
      refine gn ?_
      dsimp only
      refine ⟨_, rfl, _, rfl, _, rfl, .ref R, n, D, ps, rfl, oS7, hlm, n1, by omega, d0, by omega, m7.2.2, fun _ z2 H8 u8 oz2 => ?_, fun h => by rw [htoo] at h; cases h⟩
      have st8 := u8.stay m7.2.2
      have m8 := m7.u u8
      have oz8 := oz.stay st8
      have oS8 := oS7.stay st8
      refine ⟨_, _, rfl, oz2.dq, f1, f2, f3, _, rfl, _, _, rfl, oz8.dq, f1, f2, f3, rfl, _, rfl, ?_⟩
      rw [decide_eq_true rfl]
      refine iteF (next_of ?_)
      have ed8 : H8 da = some (.tup ds) := st8 _ _ ed fun _ q => nomatch q
      have od8 : OdAll H8 ds ((dealP ps n D).map limP) := by
        obtain ⟨a, xs, e1, e2, e3⟩ := od_tup oz8
        cases e1
        rw [ed8] at e2
        cases e2
        exact e3
      clear oS oz oS7 oz2 ed od m6 m7 s7
      refine ⟨_, rfl, da, rfl, ⟨_, SqT.of ed8⟩, fun D7 h7 => lc_tup (K := K) (a := da) (xs := ds) (fun j Hy => Same H8 Hy ∧ (∃ us, Hy D7 = some (.lst us) ∧ us.length = j) ∧ LstT Hy D7 (((dealP ps n D).take j).map fun l => partP (l, D))) ⟨same_upd h7, ⟨[], upd_same, rfl⟩, LstT.at upd_same⟩ (fun j Hy _ z => SqT.of (z.1 _ _ ed8)) ?_ ?_⟩
      · rintro j x Hy hx ⟨sy, ⟨vs, ev, lv⟩, lt⟩
        obtain ⟨d, hdm, ox⟩ := od_at od8 hx
        rw [List.getElem?_map] at hdm
        obtain ⟨l, hlj, rfl⟩ := Option.map_eq_some_iff.mp hdm
        have hj : j < ds.length := (List.getElem?_eq_some_iff.mp hx).1
        refine ⟨rfl, ?_⟩
        unfold tYes
        dsimp only
        rw [if_pos rfl]
        refine ⟨_, rfl, _, rfl, by show 2 ≤ sizeLine; omega, fun t ht => ?_⟩
        have st := same_upd (o := HO.tup [x, V.int D]) ht
        refine ⟨vs, st _ _ ev, by omega, same_into h7 (sy.trans st), ⟨_, upd_same, by rw [List.length_append, lv]; rfl⟩, ?_⟩
        rw [List.take_add_one, hlj, List.map_append]
        exact (lt.same st).put (st _ _ ev) (.tup upd_same (.cons ((ox.same sy).same st) (.cons (.int _) .nil))) (tup_part _)
      · rintro Hy ⟨sy, ⟨vs, ev, lv⟩, lt⟩
        rw [List.take_of_length_le (by omega)] at lt
        refine ⟨D7, vs, rfl, .inl ⟨SqL.of ev, fun R2 hR2 => gn ?_⟩⟩
        dsimp only
        obtain ⟨cs, hcs⟩ : ∃ cs : List (List (Int × Int) × Int), cs = (dealP ps n D).map fun l => (l, D) := ⟨_, rfl⟩
        have oC : Od (upd Hy R2 (.tup vs)) (.ref R2) (.tuple (cs.map partP)) := by
          have := lt.tup ev hR2
          rw [hcs, List.map_map]
          exact this
        have s9 := sy.trans (same_upd (o := HO.tup vs) hR2)
        have m9 := m8.s s9
        have oS9 := oS8.same s9
        have ed9 := s9 _ _ ed8
        have oz9 := oz8.same s9
        generalize upd Hy R2 (.tup vs) = H9 at *
        clear hR2 sy ev lv lt h7
        have hk : keepB cs ps = true := by rw [hcs]; exact keep_deal hlm n1 d0 htoo
        have hpart : ∀ c ∈ cs, PartOk c := fun c hc => by
          rw [hcs] at hc
          obtain ⟨l, hl, rfl⟩ := List.mem_map.mp hc
          exact ⟨hdl l hl, d0, by show D ≤ 24; omega⟩
        have lcs : cs.length = n.toNat := by rw [hcs, List.length_map, ldp]
        refine ⟨_, rfl, _, rfl, .ref R2, .ref R, cs, ps, rfl, oC, by omega, by omega, hpart, oS9, hlm, m9.2.2, fun H10 u10 => ?_⟩
        have st10 := u10.stay m9.2.2
        refine ⟨_, rfl, _, rfl, .ref R2, .ref R, cs, ps, rfl, oC.stay st10, by omega, by omega, hpart, oS9.stay st10, hlm, u10.1, fun _ H11 u11 => ?_, fun h => by rw [hk] at h; cases h⟩
        rw [hk]
        have u11' := u10.trans u11
        have st11 := u11'.stay m9.2.2
        have m11 := m9.u u11'
        obtain ⟨g1, g2, g3, g4⟩ := true_none
        refine ⟨by show 2 ≤ sizeLine; omega, fun L hL => ⟨_, _, rfl, .lst (SqL.of upd_same) (.cons (.bl true) (.cons .non .nil)), g1, g2, g3, ?_⟩⟩
        refine ⟨rfl, _, rfl, ?_⟩
        rw [g4, decide_eq_true rfl]
        refine iteF (next_of ?_)
        have sL := same_upd (o := HO.lst [V.bl true, V.non]) hL
        have m12 := m11.s sL
        have oC12 := (oC.stay st11).same sL
        have oS12 := (oS9.stay st11).same sL
        have oz12 := (oz9.stay st11).same sL
        have ed12 : upd H11 L (.lst [V.bl true, V.non]) da = some (.tup ds) := sL _ _ (st11 _ _ ed9 fun _ q => nomatch q)
        generalize upd H11 L (.lst [V.bl true, V.non]) = H12 at *
        have od12 : OdAll H12 ds ((dealP ps n D).map limP) := by
          obtain ⟨a, xs, e1, e2, e3⟩ := od_tup oz12
          cases e1
          rw [ed12] at e2
          cases e2
          exact e3
        clear sL hL g1 g2 g3 m11 st11 u11' u11 st10 u10 oz9 ed9 oS9 m9 s9 oC od8 oS8 ed8 oz8 m8 st8 u8
        refine ⟨by show 0 ≤ sizeLine; omega, fun D8 h8 => gn ?_⟩
        have n8p : D8 ≠ p := well_ne m12.2.1 h8
        have s8 := same_upd (o := HO.lst []) h8
        dsimp only
        refine ⟨_, rfl, da, rfl, ⟨_, SqT.of (s8 _ _ ed12)⟩, for_tup (K := K) (a := da) (xs := ds) (fun j σ Hx => Mv T p H12 Hx ∧ (∃ us, Hx D8 = some (.lst us) ∧ us.length = j) ∧ ∃ (rows : List (List (Int × Int))) (v6 v9 : Option V), rows.length = j ∧ (∀ (i : Nat) (h : i < rows.length) (h2 : i < cs.length), RowOk cs[i] rows[i] ∧ rows[i].length ≤ 30) ∧ LstT Hx D8 (rows.map limP) ∧ σ = [some (.ref p), some (.int n), some (.int D), some (.ref R), v4, some (.ref da), v6, some (.ref R2), some (.ref D8), v9, none]) ⟨Mv.same m12.2.1 m12.2.2 s8, ⟨[], upd_same, rfl⟩, [], _, _, rfl, (fun i h => absurd h (Nat.not_lt_zero i)), LstT.at upd_same, rfl⟩ (fun j σ Hx _ q => SqT.of (mv_ts m12.2.1 q.1 _ _ ed12)) ?_ ?_⟩
        · rintro j x σ Hx hx ⟨mx, ⟨us, eu, lu⟩, rows, v6, v9, lr, hr', lt, rfl⟩
          obtain ⟨d, hdm, ox⟩ := od_at od12 hx
          rw [List.getElem?_map] at hdm
          obtain ⟨l, hlj, rfl⟩ := Option.map_eq_some_iff.mp hdm
          have hj := (List.getElem?_eq_some_iff.mp hx).1
          have oxx := od_mv m12.2.1 mx ox (tup_lim l)
          have hll := hdl l (List.mem_of_getElem? hlj)
          refine gn ?_
          dsimp only
          refine ⟨_, rfl, _, rfl, p, x, l, rfl, mx.2.1, oxx, hll, mx.2.2, fun a ns Hb mb ea nap hasc hpol hl30 hb40 => gn ?_⟩
          dsimp only
          refine ⟨_, rfl, rfl, _, rfl, iteF (next_of ?_)⟩
          have eu2 := mb.lst eu n8p
          refine ⟨_, rfl, .inl ⟨rfl, _, SqL.of eu2⟩, _, rfl, _, rfl, _, rfl, p, a, D, ns, rfl, mb.2.1, ea, nap, hasc, by omega, hb40, d0, by omega, fun z qs Hc bc wc oz' hq1 hq2 hq3 => ?_⟩
          have eu3 := bc _ _ eu2 n8p
          have mc := (mx.trans mb).b bc wc
          have lt3 := lt.ts (fun b xs e => but_ts mb.2.1 bc _ _ (mv_ts mx.2.1 mb _ _ e)) (fun vs e => bc _ _ (mb.lst e n8p) n8p)
          refine ⟨D8, _, _, rfl, rfl, eu3, by omega, ?_⟩
          have lqs : qs.length = ns.length := by rw [← hq1, List.length_map]
          have row : RowOk (l, D) qs := ⟨by omega, by rw [hq1]; exact hasc, hq3, hq2, by rw [hq1]; exact hpol, fun q hq => by
            have a1 := hq2 q hq
            have a2 := hb40 q.1 (by rw [← hq1]; exact List.mem_map.mpr ⟨q, hq, rfl⟩)
            omega⟩
          refine ⟨mc.put h8 eu3 n8p, ⟨_, upd_same, by rw [List.length_append, lu]; rfl⟩, rows ++ [qs], _, _, by rw [List.length_append, lr]; rfl, fun i hi h2 => ?_, ?_, rfl⟩
          · by_cases z : i < rows.length
            · rw [List.getElem_append_left z]
              exact hr' i z h2
            · have e : i = rows.length := by
                rw [List.length_append, List.length_singleton] at hi
                omega
              subst e
              have e1 : cs[rows.length] = (l, D) := by
                have : cs[rows.length]? = some (l, D) := by
                  rw [hcs, List.getElem?_map, lr, hlj]
                  rfl
                exact (List.getElem?_eq_some_iff.mp this).2
              rw [e1, List.getElem_append_right (Nat.le_refl _)]
              simp only [Nat.sub_self, List.getElem_cons_zero]
              exact ⟨row, by omega⟩
          · rw [List.map_append]
            exact lt3.put eu3 oz' (tup_lim qs)
        · rintro σ Hx ⟨mx, ⟨us, eu, lu⟩, rows, v6, v9, lr, hr', lt, rfl⟩
          have lr' : rows.length = cs.length := by omega
          have mX := m12.trans mx
          have oC' := od_mv m12.2.1 mx oC12 (tup_parts cs)
          have oS' := od_mv m12.2.1 mx oS12 (tup_lim ps)
          have ozX := od_mv m12.2.1 mx oz12 (tup_rows _)
          have edX := mv_ts m12.2.1 mx _ _ ed12
          obtain ⟨ws, ew, ow, _⟩ := id lt
          rw [eu] at ew
          cases ew
          have rowIn : ∀ qs ∈ rows, qs.length ≤ 30 ∧ asc 0 (qs.map (·.2)) ∧ ∀ q ∈ qs, q.2 ≤ 10000 := fun qs hq => by
            obtain ⟨i, hi, rfl⟩ := List.getElem_of_mem hq
            obtain ⟨a, b⟩ := hr' i hi (by rw [← lr']; exact hi)
            exact ⟨b, a.come, a.big⟩
          refine ⟨_, rfl, .ref D8, rows, rfl, .lst eu ow, by omega, fun qs hq => by have := (rowIn qs hq).1; omega, fun zc ms H14 s14 iz hperm hpw => gn ?_⟩
          dsimp only
          have hpol : Polite ps [1] ms := rows_polite hpart hlm hk lr' (fun i h h2 => (hr' i h h2).1) hperm hpw
          obtain ⟨msb, msl⟩ := come_small (by omega) rowIn hperm
          have m14 := mX.s s14
          obtain ⟨za, rfl, ez⟩ := iz
          have hf : firstI ps [1] ms = none := first_none hpol
          -- not wrong
          refine ⟨_, rfl, by show 1 ≤ sizeLine; omega, fun y1 hy1 => ?_⟩
          have sy1 := same_upd (o := HO.tup [V.int 1]) hy1
          refine ⟨_, rfl, .ref R, .ref y1, .ref za, ps, [1], ms, rfl, (oS'.same s14).same sy1, fun q hq => by have := hlm.2 q hq; omega, .tup upd_same (.cons (.int 1) .nil), Nat.zero_lt_one, (Od.tup ez (ints_od ms)).same sy1, srt_of_pairwise hpw, by omega, fun H15 s15 => ⟨rfl, ?_⟩⟩
          rw [hf]
          refine ⟨_, rfl, iteF ?_⟩
          have s145 := sy1.trans s15
          have m15 := m14.s s145
          have ez15 := s145 _ _ ez
          have oS15 := (oS'.same s14).same s145
          -- polite
          refine ⟨_, rfl, by show 1 ≤ sizeLine; omega, fun y2 hy2 => ⟨by show 2 ≤ sizeLine; omega, fun y3 hy3 => ?_⟩⟩
          have sy2 := same_upd (o := HO.tup [V.int 1]) hy2
          have sy3 := same_upd (o := HO.tup [V.ref R, V.ref y2]) hy3
          have oR : Od (upd (upd H15 y2 (.tup [V.int 1])) y3 (.tup [V.ref R, V.ref y2])) (.ref y3) (rulesP ps [1]) := .tup upd_same (.cons (oS15.same (sy2.trans sy3)) (.cons (.tup (sy3 _ _ upd_same) (.cons (.int 1) .nil)) .nil))
          have ez16 := (sy2.trans sy3) _ _ ez15
          have m16 := m15.s (sy2.trans sy3)
          have oS16 := oS15.same (sy2.trans sy3)
          have oC16 := ((oC'.same s14).same s145).same (sy2.trans sy3)
          have oz16 := ((ozX.same s14).same s145).same (sy2.trans sy3)
          have edL16 := (sy2.trans sy3) _ _ (s145 _ _ (s14 _ _ edX))
          have ltL := ((lt.same s14).same s145).same (sy2.trans sy3)
          have euL := (sy2.trans sy3) _ _ (s145 _ _ (s14 _ _ eu))
          generalize upd (upd H15 y2 (.tup [V.int 1])) y3 (.tup [V.ref R, V.ref y2]) = H16 at *
          have g : Good ps [1] := ⟨hlm.1, hlm.2, by decide, by decide, fun h hh => by rw [List.mem_singleton.mp hh]; decide, ⟨0, Nat.zero_lt_one, rfl⟩⟩
          have hR : Right ps [1] ms := g.right (asc_pw (fun x hx => (msb x hx).1) hpw) (by omega)
          refine ⟨_, rfl, .ref y3, .ref za, ps, [1], ms, rfl, oR, ⟨za, rfl, .inl ez16⟩, hR, m16.2.2, fun H17 u17 => ?_⟩
          rw [hf]
          obtain ⟨g1, g2, g3, g4⟩ := true_is
          refine ⟨_, _, rfl, .bl true, g1, g2, g3, rfl, _, rfl, ?_⟩
          rw [g4, decide_eq_true rfl]
          refine iteF (next_of ?_)
          have st17 := u17.stay m16.2.2
          have m17 := m16.u u17
          have ez17 : H17 za = some (.tup (ms.map V.int)) := st17 _ _ ez16 fun _ q => nomatch q
          have euL17 : H17 D8 = some (.lst us) := st17 _ _ euL fun _ q => nomatch q
          have lt17 : LstT H17 D8 (rows.map limP) := ltL.ts (fun b xs e => st17 _ _ e fun _ q => nomatch q) (fun vs e => st17 _ _ e fun _ q => nomatch q)
          have oC17 := oC16.stay st17
          have oS17 := oS16.stay st17
          have oz17 := oz16.stay st17
          have ed17 : H17 da = some (.tup ds) := st17 _ _ edL16 fun _ q => nomatch q
          refine ⟨_, rfl, _, rfl, D8, _, rfl, .inl ⟨SqL.of euL17, fun R3 hR3 => ?_⟩⟩
          have s18 := same_upd (o := HO.tup us) hR3
          have oL18 := lt17.tup euL17 hR3
          have m18 := m17.s s18
          have oC18 := oC17.same s18
          have oS18 := oS17.same s18
          have ez18 := s18 _ _ ez17
          have ed18 := s18 _ _ ed17
          have oz18 := oz17.same s18
          generalize upd H17 R3 (.tup us) = H18 at *
          refine ⟨.ref R2, .ref R3, cs, rows, rfl, oC18, by omega, by omega, hpart, oL18, ⟨lr', fun i h h2 => (hr' i h h2).1⟩, m18.2.2, fun za2 ma H19 u19 iz2 pm1 pm2 => ?_⟩
          have ema : ma = ms := perm_one pm1 hperm pm2 hpw
          subst ema
          have st19 := u19.stay m18.2.2
          have m19 := m18.u u19
          obtain ⟨e1, e2, e3⟩ := come_facts (l := ma) (fun x hx => by have := msb x hx; omega) (by omega)
          refine ⟨_, _, rfl, iz2.od.dq, e1, e2, e3, _, rfl, _, _, rfl, ((Od.tup ez18 (ints_od ma)).stay st19).dq, e1, e2, e3, rfl, ?_⟩
          rw [decide_eq_true rfl]
          have ed19 : H19 da = some (.tup ds) := st19 _ _ ed18 fun _ q => nomatch q
          have od19 : OdAll H19 ds ((dealP ps n D).map limP) := by
            obtain ⟨a, xs, e1, e2, e3⟩ := od_tup (oz18.stay st19)
            cases e1
            rw [ed19] at e2
            cases e2
            exact e3
          have hd0 : 0 < ds.length := by omega
          have hx0 : ds[0]? = some ds[0] := List.getElem?_eq_getElem hd0
          obtain ⟨d, hdm, ox⟩ := od_at od19 hx0
          rw [List.getElem?_map] at hdm
          obtain ⟨l, hl0, rfl⟩ := Option.map_eq_some_iff.mp hdm
          have hln : l ≠ [] := by
            unfold dealP at hl0
            rw [List.getElem?_map] at hl0
            obtain ⟨i, _, rfl⟩ := Option.map_eq_some_iff.mp hl0
            unfold shareP
            exact fun z => p0 (List.map_eq_nil_iff.mp z)
          refine ⟨true, rfl, iteT ?_⟩
          refine ⟨_, rfl, da, _, 0, _, rfl, rfl, SqT.of ed19, atI_nat (j := 0) hx0, _, rfl, _, rfl, _, .ref R, D, l, ps, rfl, ox, hdl l (List.mem_of_getElem? hl0), hln, oS18.stay st19, hlm, p0, d0, by omega, m19.2.2, fun H20 u20 => ?_⟩
          exact k H20 (m19.u u20)
end
end KP
set_option Elab.async false
set_option maxRecDepth 100000
set_option maxHeartbeats 4000000
set_option linter.all false
/-! Ours: the law. -/
namespace KP
open PySem PySem.Spec PyProof.Rows L2 Gr GxR
theorem all_true : ∀ n, (List.replicate n true).all id = true
  | 0 => rfl
  | n + 1 => by
    rw [List.replicate_succ, List.all_cons, all_true n]
    rfl
theorem sql_stay {K : PySem.W.Frag} {H H' : Hp} {a : Addr} {xs : List V} (s : Stay H H') (h : SqL K H a xs) : SqL K H' a xs := by
  rcases h with (h | ⟨o, h⟩) | h
  · exact .inl (.inl (s _ _ h fun _ q => nomatch q))
  · exact .inl (.inr ⟨o, s _ _ h fun _ q => nomatch q⟩)
  · exact .inr h
def spLaw {K : PySem.W.Frag} {mg : Str → Option Value} (T : D K mg) : Sp := fun vs H Q _ => ∃ (a : Addr) (ns : List Int), vs = [.ref a] ∧ SqL K H a (ns.map V.int) ∧ ns.length ≤ 63 ∧ Tb (tabs T) H ∧ ∀ H', Q (.bl true) H'
section
variable {P : Program} {w : World} {K : PySem.W.Frag} {mg : Str → Option Value} {base : Heap} {C C2 : Addr}
theorem sc_law : FnScope ["_law_script", "_law_turn"] ["_law_script"] (defScope s_law) := ⟨rfl, rfl, rfl, by decide +kernel, rfl, by decide +kernel, by decide +kernel⟩
theorem ok_law (T : D K mg) (TB : Tabs base T) (B : BarF K mg C) (NS : ExcF K mg "NoShare" C2) (hM : SysM K) : FnQ P w K mg base CX0 12 T.f_law T.d_law ["_law_script"] (spLaw T) := by
  refine funQ T.U_law sc_law (fun vs H Q E h => ?_) (fun cdv A outer s H vs Q E hgu hr h => ?_)
  · obtain ⟨a, ns, rfl, _⟩ := h
    rfl
  · obtain ⟨a, ns, rfl, hS, hl, hT, k⟩ := h
    have nd := sc_law.nd
    have GR : FnQ P w K mg base CX0 11 T.f_l_right T.d_l_right ["_law_well_here"] (spRight T) := ok_right T TB B NS hM
    refine ⟨_, pss_one (ps_ret (pe_callB (cr_all rfl) (by rfl) T.all boot_all (pa_cons (pe_lc (own := [("_law_turn", 1)]) (g := gName 1) (tt := tYes) rfl nd (pi_range1 rfl T.range (pa_cons (pe_callB (call_max2 rfl) (by rfl) T.max boot_max (pa_cons pe_int (pa_cons (pe_callB (call_min2 rfl) (by rfl) T.min boot_min (pa_cons (pe_callB call_len_seq (by rfl) T.len PySem.boot_len (pa_cons (pv 0) pa_nil)) (pa_cons pe_int pa_nil))) pa_nil))) pa_nil)) (blkOk_by (N := ["_law_script", "_law_turn"]) (sc := defScope s_law) (by decide +kernel)) (fun _ _ _ _ _ => pg_name (i := 1) nd rfl (.inl rfl)) (fun _ _ _ _ _ => pts_nil) (fun _ _ _ _ _ => pe_callQ hgu GR hr rfl T.g_l_right T.U_l_right.kp T.b_l_right .nil pass0 (pa_cons (pe_call (ok_l_well T) (hr.mono (by decide)) rfl T.g_l_well T.U_l_well.kp T.b_l_well .nil pass0 (pa_cons (pv 0) (pa_cons (pv 1) pa_nil))) pa_nil))) pa_nil))), ?_⟩
    refine ⟨_, rfl, a, _, rfl, .inl hS, _, _, rfl, _, _, rfl, _, rfl, ?_, ?_, fun D hD => lc_range (n := _) (fun n H2 => Stay H H2 ∧ Tb (tabs T) H2 ∧ H2 D = some (.lst ((List.replicate n true).map V.bl))) ⟨fun x o e _ => same_upd hD x o e, hT.same (same_upd hD), upd_same⟩ ?_ ?_⟩
    · split <;> split <;> omega
    · split <;> split <;> omega
    · rintro n H2 hn ⟨s2, t2, hDn⟩
      refine ⟨wipe1, ?_⟩
      unfold tYes
      dsimp only
      rw [if_pos rfl]
      have hn6 : n < 63 := by
        refine Nat.lt_of_lt_of_le hn ?_
        split <;> split <;> omega
      refine ⟨_, rfl, _, rfl, a, ns, (n : Int), ?_, sql_stay s2 hS, by omega, by omega, fun q H3 hq hw s3 => ⟨q, rfl, hw, t2.same s3, fun H4 mv => ?_⟩⟩
      · rw [Int.zero_add]
        rfl
      · have s4 : Stay H2 H4 := fun b o e m => mv.1 b o (s3 b o e) (ne_of_none e hq) m
        refine ⟨_, s4 _ _ hDn (fun _ q => nomatch q), ?_, ?_, ?_, ?_⟩
        · rw [List.length_map, List.length_replicate, sizeLine_eq]
          omega
        · intro b o e m
          rw [upd_ne (ne_of_none e hD)]
          exact s4 _ _ (s2 _ _ e m) m
        · have nD : ∀ P : Addr, TabG H4 P → D ≠ P := fun P ⟨ps, e, _⟩ z => by
            rw [← z, s4 _ _ hDn (fun _ q => nomatch q)] at e
            cases e
          exact fun P hP => let ⟨ps, e, x⟩ := mv.2.2 P hP; ⟨ps, (upd_ne (Ne.symm (nD _ ⟨ps, e, x⟩))).trans e, x⟩
        · rw [upd_same, List.replicate_succ', List.map_append]
          rfl
    · rintro H2 ⟨s2, t2, hDn⟩
      refine ⟨D, _, rfl, SqL.of hDn, ?_⟩
      rw [all_true]
      exact k _
end
end KP
set_option Elab.async false
set_option maxRecDepth 100000
set_option maxHeartbeats 8000000
set_option linter.all false
namespace KP
open PySem PySem.Spec PyProof.Rows L2 Gr GxR PySem.W
/-! what is asked of the written part -/
def hasRef : Option Value → Addr → Bool
  | some (.ref a), q => a == q
  | _, _ => false
def isStrV : Value → Bool
  | .str _ _ => true
  | _ => false
def isIntV : Value → Bool
  | .int _ _ => true
  | _ => false
def isBoolV : Value → Bool
  | .bool _ => true
  | _ => false
def hdB (K : Frag) (c q : Addr) : Bool := match K.lookup c with
  | some ⟨.type n, _, .fields vs, _⟩ => n == "code" && (hasRef vs[11]? q && (isStrV (vs.getD 18 .none) && (isIntV (vs.getD 7 .none) && (isBoolV (vs.getD 9 .none) && isIntV (vs.getD 10 .none)))))
  | _ => false
theorem hdB_ok {K : Frag} {h : Heap} {c q : Addr} (X : K.In h) (n : c ≠ q) (e : hdB K c q = true) : CodeHd h c q := by
  unfold hdB at e
  split at e
  · rename_i nm od vs sl hk
    simp only [Bool.and_eq_true, beq_iff_eq] at e
    obtain ⟨rfl, e1, e2, e3, e4, e5⟩ := e
    have r : vs[11]? = some (.ref q) := by
      cases hv : vs[11]? with
      | none => rw [hv] at e1; cases e1
      | some v =>
        rw [hv] at e1
        cases v with
        | ref a =>
          have : (a == q) = true := e1
          rw [beq_iff_eq.mp this]
        | _ => cases e1
    have r2 : vs.getD 11 .none = .ref q := by rw [Array.getD_eq_getD_getElem?, r]; rfl
    generalize h18 : vs.getD 18 .none = v18 at e2
    generalize h7 : vs.getD 7 .none = v7 at e3
    generalize h9 : vs.getD 9 .none = v9 at e4
    generalize h10 : vs.getD 10 .none = v10 at e5
    cases v18 <;> first | cases e2 | skip
    cases v7 <;> first | cases e3 | skip
    cases v9 <;> first | cases e4 | skip
    cases v10 <;> first | cases e5 | skip
    exact ⟨_, vs, _, _, _, _, _, _, _, X _ _ hk, rfl, rfl, r, r2, h18, h7, h9, h10, n⟩
  · cases e
theorem rangeOf {k : Nat} {t : Nat → Bool} (h : (List.range k).all t = true) {n : Nat} (hn : n < k) : t n = true := List.all_eq_true.mp h n (List.mem_range.mpr hn)
def bis : List Str := ("abs" : Str) :: ("all" : Str) :: ("any" : Str) :: ("bool" : Str) :: ("divmod" : Str) :: ("enumerate" : Str) :: ("int" : Str) :: ("isinstance" : Str) :: ("len" : Str) :: ("list" : Str) :: ("max" : Str) :: ("min" : Str) :: ("property" : Str) :: ("range" : Str) :: ("repr" : Str) :: ("sorted" : Str) :: ("sum" : Str) :: ("tuple" : Str) :: []
def chkN (K : Frag) : Bool := (List.range 18).all fun n => decide (nsIn K mainGlobals (bis.getD n "") = some none)
theorem nameN {K : Frag} {h : Heap} {mg : Str → Option Value} (X : K.In h) (G : h.Ns mainGlobals mg) (c : chkN K = true) (n : Nat) (hn : n < 18) : mg (bis.getD n "") = none := mg_none_of X G (of_decide_eq_true (rangeOf c hn))
def fnm : List Str := ("opens" : Str) :: ("next_open" : Str) :: ("keeps_apart" : Str) :: ("first_wrong_ask" : Str) :: ("next_ask" : Str) :: ("soonest_asks" : Str) :: ("most_between" : Str) :: ("most_within" : Str) :: ("is_whole" : Str) :: ("is_between" : Str) :: ("is_tuple" : Str) :: ("check_from" : Str) :: ("check_between" : Str) :: ("is_limit" : Str) :: ("are_limits" : Str) :: ("are_hours" : Str) :: ("are_rules" : Str) :: ("check_limits" : Str) :: ("check_rules" : Str) :: ("first_back" : Str) :: ("check_asks" : Str) :: ("check_amount" : Str) :: ("is_polite" : Str) :: ("first_wrong" : Str) :: ("is_part" : Str) :: ("check_parts" : Str) :: ("broken_limit" : Str) :: ("keep" : Str) :: ("breaking" : Str) :: ("crowded_row" : Str) :: ("arrivals" : Str) :: ("is_row_of" : Str) :: ("dealt" : Str) :: ("share_of" : Str) :: ("most_crawlers" : Str) :: ("span_of" : Str) :: ("room" : Str) :: ("has_room" : Str) :: ("shifted" : Str) :: ("_law_well" : Str) :: ("_law_pick" : Str) :: ("_law_one" : Str) :: ("_law_open" : Str) :: ("_law_wrong_at" : Str) :: ("_law_may" : Str) :: ("_law_soonest" : Str) :: ("_law_is_whole" : Str) :: ("_law_asked" : Str) :: ("_law_some_asks" : Str) :: ("_law_late" : Str) :: ("_law_due" : Str) :: ("_law_come" : Str) :: ("_law_row_formed" : Str) :: ("_law_one_more_right" : Str) :: ("_law_right" : Str) :: ("law" : Str) :: []
def fad : List Addr := [29, 36, 43, 50, 55, 62, 69, 76, 234, 241, 248, 255, 262, 269, 276, 283, 290, 297, 304, 311, 318, 325, 332, 339, 346, 353, 358, 365, 370, 375, 380, 385, 390, 397, 402, 407, 412, 419, 426, 539, 546, 553, 560, 565, 570, 577, 584, 591, 598, 605, 610, 615, 620, 625, 630, 635]
def chkF (K : Frag) : Bool := (List.range 56).all fun n => decide (nsIn K mainGlobals (fnm.getD n "") = some (some (.ref (fad.getD n 0)))) && keepIn K (.ref (fad.getD n 0))
theorem nameF {K : Frag} {h : Heap} {mg : Str → Option Value} (X : K.In h) (G : h.Ns mainGlobals mg) (c : chkF K = true) (n : Nat) (hn : n < 56) : mg (fnm.getD n "") = some (.ref (fad.getD n 0)) ∧ keepIn K (.ref (fad.getD n 0)) = true := by
  have q := rangeOf c hn
  simp only [Bool.and_eq_true, decide_eq_true_eq] at q
  exact ⟨mg_of X G q.1, q.2⟩
def chkS (K : Frag) : Bool := match K.lookup sysModules with
  | some ⟨_, _, .dict _ _, _⟩ => true
  | _ => false
theorem sysM_of {K : Frag} (h : chkS K = true) : SysM K := by
  unfold chkS at h
  split at h
  · rename_i es n _ q
    exact ⟨_, es, n, q, rfl⟩
  · cases h
def recHd (K : Frag) (a g : Addr) : Bool := match recIn K a "property" with
  | some (.ref x :: _) => x == g
  | _ => false
theorem recHd_ok {K : Frag} {a g : Addr} (h : recHd K a g = true) : ∃ rest, recIn K a "property" = some (.ref g :: rest) := by
  unfold recHd at h
  split at h
  · rename_i x r q
    exact ⟨r, by rw [q, beq_iff_eq.mp h]⟩
  · cases h
/-- defaults: the tuple at the place holds the int -/
def chkDf (K : Frag) (a : Addr) (m : Int) : Bool := match K.lookup a with
  | some ⟨_, _, .seq its _, _⟩ => (match its.toList with | [.int i _] => i == m | _ => false)
  | _ => false
theorem fun_mkP {K K0 : Frag} {x qual : Str} {m : Int} {st : Stmt} {f a : Addr} {oc : Value} {od an : Option Addr} {osl : Array (Option Value)} {kV doc pm cdv ct : Value} (hK : ∀ b, b ≠ sysModules → K.lookup b = K0.lookup b) (ne : f ≠ sysModules)
    (l : K0.lookup f = some ⟨oc, od, .func (fnOf x qual (defArgs st) (defBody st) (defScope st) (.ref a) kV doc pm an cdv ct), osl⟩) (c : codeIn K cdv qual = true) (q : chkDf K a m = true) : ∃ fd, keepIn K (.ref f) = true → FunD K x qual (defArgs st) (defBody st) (defScope st) [.int m] [] f fd := by
  refine ⟨_, fun k => ⟨⟨oc, od, .ref a, kV, doc, pm, an, cdv, ct, osl, rfl, (hK _ ne).trans l, c, .inr ⟨List.cons_ne_nil _ _, ?_⟩, .inl rfl⟩, k⟩⟩
  unfold chkDf at q
  split at q
  · rename_i c0 d0 its n0 sl0 e
    split at q
    · rename_i i t hi
      refine ⟨a, _, its.toList, n0, rfl, e, by simp, ?_⟩
      rw [hi, beq_iff_eq.mp q]
      exact .cons ⟨t, rfl⟩ .nil
    · cases q
  · cases q
def chkKw (K : Frag) (D : Addr) (x : Str) (n : Int) : Bool := match nsIn K D x with
  | some (some (.int m _)) => m == n
  | _ => false
theorem fun_mkK {K K0 : Frag} {x qual y : Str} {n : Int} {st : Stmt} {f D : Addr} {oc : Value} {od an : Option Addr} {osl : Array (Option Value)} {doc pm cdv ct : Value} (hK : ∀ b, b ≠ sysModules → K.lookup b = K0.lookup b) (ne : f ≠ sysModules)
    (l : K0.lookup f = some ⟨oc, od, .func (fnOf x qual (defArgs st) (defBody st) (defScope st) .none (.ref D) doc pm an cdv ct), osl⟩) (c : codeIn K cdv qual = true) (q : chkKw K D y n = true) : ∃ fd, keepIn K (.ref f) = true → FunD K x qual (defArgs st) (defBody st) (defScope st) [] [(y, .int n)] f fd := by
  refine ⟨_, fun k => ⟨⟨oc, od, .none, .ref D, doc, pm, an, cdv, ct, osl, rfl, (hK _ ne).trans l, c, .inl ⟨rfl, rfl⟩, .inr ⟨D, rfl, fun z hz => ?_⟩⟩, k⟩⟩
  rw [List.mem_singleton.mp hz]
  unfold chkKw at q
  split at q
  · rename_i m t e
    exact ⟨_, e, t, by rw [beq_iff_eq.mp q]⟩
  · cases q
def prnMonitor : List Str := ("rules" : Str) :: ("moment" : Str) :: ("counts" : Str) :: ("asked" : Str) :: []
def praMonitor : List Addr := [449, 457, 465, 473]
def prgMonitor : List Addr := [448, 456, 464, 472]
def chkPMonitor (K : Frag) : Bool := (List.range 4).all fun n => decide (findIn K (.ref 528) (prnMonitor.getD n "") = some (some (.ref (praMonitor.getD n 0)))) && (decide (specialIn K (.ref (praMonitor.getD n 0)) "__get__" = some (some (.builtin "property.__get__"))) && (decide (takesIn K (.ref (praMonitor.getD n 0)) = some true) && (recHd K (praMonitor.getD n 0) (prgMonitor.getD n 0) && keepIn K (.ref (prgMonitor.getD n 0)))))
theorem propMonitor {K : Frag} (c : chkPMonitor K = true) (n : Nat) (hn : n < 4) : PropOf K 528 (prnMonitor.getD n "") (praMonitor.getD n 0) (prgMonitor.getD n 0) ∧ keepIn K (.ref (prgMonitor.getD n 0)) = true := by
  have q := rangeOf c hn
  simp only [Bool.and_eq_true, decide_eq_true_eq] at q
  exact ⟨⟨q.1, q.2.1, q.2.2.1, recHd_ok q.2.2.2.1⟩, q.2.2.2.2⟩
def chkMonitor (K : Frag) : Bool := plainGet K 528 Str.empty && (hasDictIn K 528 && (plainOver K 528 && (decide (findIn K (.ref 528) "__setattr__" = some (some (.builtin "object.__setattr__"))) && (decide (nsIn K mainGlobals "Monitor" = some (some (.ref 528))) && (makesIn K 528 && (decide (findIn K (.ref 528) "__init__" = some (some (.ref 441))) && keepIn K (.ref 528)))))))
def fldMonitor : List Str := ("_asked" : Str) :: ("_counts" : Str) :: ("_earlier" : Str) :: ("_moment" : Str) :: ("_rules" : Str) :: []
def chkAMonitor (K : Frag) : Bool := (List.range 5).all fun n => decide (findIn K (.ref 528) (fldMonitor.getD n "") = some none)
theorem noAMonitor {K : Frag} (c : chkAMonitor K = true) (n : Nat) (hn : n < 5) : findIn K (.ref 528) (fldMonitor.getD n "") = some none := of_decide_eq_true (rangeOf c hn)
def metMonitor : List Str := ("__init__" : Str) :: ("_check" : Str) :: ("_counts_then" : Str) :: ("_asked_then" : Str) :: ("lets" : Str) :: ("ask" : Str) :: ("soonest" : Str) :: ("undo" : Str) :: []
def madMonitor : List Addr := [441, 480, 487, 494, 502, 510, 518, 525]
def chkMMonitor (K : Frag) : Bool := (List.range 8).all fun n => decide (findIn K (.ref 528) (metMonitor.getD n "") = some (some (.ref (madMonitor.getD n 0)))) && (isFn K (.ref (madMonitor.getD n 0)) && keepIn K (.ref (madMonitor.getD n 0)))
theorem methMonitor {K : Frag} (c : chkMMonitor K = true) (n : Nat) (hn : n < 8) : Meth K 528 (metMonitor.getD n "") (madMonitor.getD n 0) := by
  have q := rangeOf c hn
  simp only [Bool.and_eq_true, decide_eq_true_eq] at q
  exact ⟨q.1, q.2.1, q.2.2⟩
theorem fun_mkS {K K0 : Frag} {x qual : Str} {st : Stmt} {f : Addr} {oc : Value} {od an : Option Addr} {osl : Array (Option Value)} {kV doc pm cdv ct : Value} (hK : ∀ b, b ≠ sysModules → K.lookup b = K0.lookup b) (ne : f ≠ sysModules)
    (l : K0.lookup f = some ⟨oc, od, .func (fnOf x qual (defArgs st) (defBody st) (defScope st) .none kV doc pm an cdv ct), osl⟩) (c : codeIn K cdv qual = true) : ∃ fd, keepIn K (.ref f) = true → Fun K x qual st f fd :=
  ⟨_, fun k => fun_mk ((hK _ ne).trans l) c k⟩
theorem fun_mkC {K K0 : Frag} {x qual : Str} {st : Stmt} {f c : Addr} {oc : Value} {od an : Option Addr} {osl : Array (Option Value)} {kV doc pm ct : Value} (hK : ∀ b, b ≠ sysModules → K.lookup b = K0.lookup b) (ne : f ≠ sysModules)
    (l : K0.lookup f = some ⟨oc, od, .func (fnOf x qual (defArgs st) (defBody st) (defScope st) .none kV doc pm an (.ref c) ct), osl⟩) (cc : codeIn K (.ref c) qual = true) : ∃ fd, keepIn K (.ref f) = true → FunC K x qual st f fd c :=
  ⟨_, fun k => ⟨⟨oc, od, kV, doc, pm, an, ct, osl, rfl, (hK _ ne).trans l, cc⟩, k⟩⟩
def chkInt (K : Frag) (x : Str) (n : Int) : Bool := match nsIn K mainGlobals x with
  | some (some (.int m _)) => m == n
  | _ => false
theorem int_of {K : Frag} {x : Str} {n : Int} (h : chkInt K x n = true) : ∃ t, nsIn K mainGlobals x = some (some (.int n t)) := by
  unfold chkInt at h
  split at h
  · rename_i m t q
    exact ⟨t, by rw [q, beq_iff_eq.mp h]⟩
  · cases h
/-- values that are these constants -/
def valsB : List Value → List L2.V → Bool
  | [], [] => true
  | .int i _ :: l, .int j :: m => i == j && valsB l m
  | .str i _ :: l, .str j :: m => i == j && valsB l m
  | _, _ => false
theorem valsB_ok : ∀ {l : List Value} {m : List L2.V}, valsB l m = true → L2.Vals m l
  | [], [], _ => .nil
  | .int i t :: l, .int j :: m, h => by
    have h : (i == j && valsB l m) = true := h
    rw [Bool.and_eq_true] at h
    exact .cons ⟨t, by rw [beq_iff_eq.mp h.1]⟩ (valsB_ok h.2)
  | .str i t :: l, .str j :: m, h => by
    have h : (i == j && valsB l m) = true := h
    rw [Bool.and_eq_true] at h
    exact .cons ⟨t, by rw [beq_iff_eq.mp h.1]⟩ (valsB_ok h.2)
theorem valsB_len : ∀ {l : List Value} {m : List L2.V}, L2.Vals m l → l.length = m.length
  | _, _, .nil => rfl
  | _, _, .cons _ h => by rw [List.length_cons, List.length_cons, valsB_len h]
/-- the global x is a tuple of the written part, of these constants -/
def chkTup (K : Frag) (x : Str) (m : List L2.V) : Bool := match nsIn K mainGlobals x with
  | some (some (.ref a)) => (match K.lookup a with
    | some o => (match o.cls with | .type c => decide (c = "tuple") | _ => false) && (match o.data with | .seq its _ => valsB its.toList m && decide (m.length ≤ 1000) | _ => false)
    | none => false)
  | _ => false
theorem tup_of {K : Frag} {x : Str} {m : List L2.V} (h : chkTup K x m = true) : ∃ a, nsIn K mainGlobals x = some (some (.ref a)) ∧ ∃ (o : Obj) (its : Array Value) (n : Nat), K.lookup a = some o ∧ o.cls = .type "tuple" ∧ o.data = .seq its n ∧ its.size ≤ sizeLine ∧ L2.Vals m its.toList := by
  unfold chkTup at h
  split at h
  · rename_i _ a q
    refine ⟨a, q, ?_⟩
    split at h
    · rename_i o ho
      rw [Bool.and_eq_true] at h
      obtain ⟨h1, h2⟩ := h
      split at h1
      · rename_i c hc
        have h1 := of_decide_eq_true h1
        split at h2
        · rename_i its n hd
          rw [Bool.and_eq_true] at h2
          have v := valsB_ok h2.1
          have h3 := of_decide_eq_true h2.2
          refine ⟨o, its, n, ho, by rw [hc, h1], hd, ?_, v⟩
          have e : its.size = m.length := by rw [← Array.length_toList, valsB_len v]
          rw [e, sizeLine_eq]
          omega
        · cases h2
      · cases h1
    · cases h
  · cases h
/-- all that is asked of the written part -/
structure Facts (K : Frag) : Prop where
  n : chkN K = true
  f : chkF K = true
  s : chkS K = true
  cMonitor : chkMonitor K = true
  aMonitor : chkAMonitor K = true
  mMonitor : chkMMonitor K = true
  pMonitor : chkPMonitor K = true
  k0 : chkTup K "ALWAYS" [L2.V.int 1] = true
  k1 : chkInt K "MOST_ASKS" 6 = true
  k2 : chkInt K "WIDEST" 12 = true
  k3 : chkInt K "MOST_PAIRS" 4 = true
  k4 : chkInt K "LONGEST_ROW" 200 = true
  k5 : chkInt K "MOST_MOMENTS" 100 = true
  k6 : chkInt K "MOST_PARTS" 6 = true
  k7 : chkInt K "LATEST" 24 = true
  b1Barred : nsIn K mainGlobals "Barred" = some (some (.ref 213))
  b2Barred : excIn K 213 [.type "ValueError", .type "Exception", .type "BaseException", .type "object"] "ValueError.__new__" = true
  b3Barred : keepIn K (.ref 213) = true
  b4Barred : subIn K (.ref 213) (.type "BaseException") = some true
  b5Barred : typeIn K (.ref 213) = some (.type "type")
  b6Barred : exmOne K (.ref 213) (.ref 213) = some true
  b1NoShare : nsIn K mainGlobals "NoShare" = some (some (.ref 225))
  b2NoShare : excIn K 225 [.type "ValueError", .type "Exception", .type "BaseException", .type "object"] "ValueError.__new__" = true
  b3NoShare : keepIn K (.ref 225) = true
  b4NoShare : subIn K (.ref 225) (.type "BaseException") = some true
  b5NoShare : typeIn K (.ref 225) = some (.type "type")
  b6NoShare : exmOne K (.ref 225) (.ref 225) = some true
  d0 : ∃ fd, keepIn K (.ref 29) = true → Fun K "opens" "opens" s_opens 29 fd
  d1 : ∃ fd, keepIn K (.ref 36) = true → Fun K "next_open" "next_open" s_next_open 36 fd
  d2 : ∃ fd, keepIn K (.ref 43) = true → FunC K "keeps_apart" "keeps_apart" s_keeps_apart 43 fd 42
  t2 : hdB K 42 38 = true
  o2 : (K.lookup 38).isNone = true
  d3 : ∃ fd, keepIn K (.ref 50) = true → Fun K "first_wrong_ask" "first_wrong_ask" s_first_wrong_ask 50 fd
  d4 : ∃ fd, keepIn K (.ref 55) = true → Fun K "next_ask" "next_ask" s_next_ask 55 fd
  d5 : ∃ fd, keepIn K (.ref 62) = true → Fun K "soonest_asks" "soonest_asks" s_soonest_asks 62 fd
  d6 : ∃ fd, keepIn K (.ref 69) = true → Fun K "most_between" "most_between" s_most_between 69 fd
  d7 : ∃ fd, keepIn K (.ref 76) = true → Fun K "most_within" "most_within" s_most_within 76 fd
  d8 : ∃ fd, keepIn K (.ref 234) = true → Fun K "is_whole" "is_whole" s_is_whole 234 fd
  d9 : ∃ fd, keepIn K (.ref 241) = true → Fun K "is_between" "is_between" s_is_between 241 fd
  d10 : ∃ fd, keepIn K (.ref 248) = true → Fun K "is_tuple" "is_tuple" s_is_tuple 248 fd
  d11 : ∃ fd, keepIn K (.ref 255) = true → Fun K "check_from" "check_from" s_check_from 255 fd
  d12 : ∃ fd, keepIn K (.ref 262) = true → Fun K "check_between" "check_between" s_check_between 262 fd
  d13 : ∃ fd, keepIn K (.ref 269) = true → Fun K "is_limit" "is_limit" s_is_limit 269 fd
  d14 : ∃ fd, keepIn K (.ref 276) = true → FunC K "are_limits" "are_limits" s_are_limits 276 fd 275
  t14 : hdB K 275 271 = true
  o14 : (K.lookup 271).isNone = true
  d15 : ∃ fd, keepIn K (.ref 283) = true → FunC K "are_hours" "are_hours" s_are_hours 283 fd 282
  t15 : hdB K 282 278 = true
  o15 : (K.lookup 278).isNone = true
  d16 : ∃ fd, keepIn K (.ref 290) = true → Fun K "are_rules" "are_rules" s_are_rules 290 fd
  d17 : ∃ fd, keepIn K (.ref 297) = true → Fun K "check_limits" "check_limits" s_check_limits 297 fd
  d18 : ∃ fd, keepIn K (.ref 304) = true → Fun K "check_rules" "check_rules" s_check_rules 304 fd
  d19 : ∃ fd, keepIn K (.ref 311) = true → Fun K "first_back" "first_back" s_first_back 311 fd
  d20 : ∃ fd, keepIn K (.ref 318) = true → Fun K "check_asks" "check_asks" s_check_asks 318 fd
  d21 : ∃ fd, keepIn K (.ref 325) = true → Fun K "check_amount" "check_amount" s_check_amount 325 fd
  d22 : ∃ fd, keepIn K (.ref 332) = true → Fun K "is_polite" "is_polite" s_is_polite 332 fd
  d23 : ∃ fd, keepIn K (.ref 339) = true → Fun K "first_wrong" "first_wrong" s_first_wrong 339 fd
  d24 : ∃ fd, keepIn K (.ref 346) = true → Fun K "is_part" "is_part" s_is_part 346 fd
  d25 : ∃ fd, keepIn K (.ref 353) = true → Fun K "check_parts" "check_parts" s_check_parts 353 fd
  d26 : ∃ fd, keepIn K (.ref 358) = true → Fun K "broken_limit" "broken_limit" s_broken_limit 358 fd
  d27 : ∃ fd, keepIn K (.ref 365) = true → Fun K "keep" "keep" s_keep 365 fd
  d28 : ∃ fd, keepIn K (.ref 370) = true → Fun K "breaking" "breaking" s_breaking 370 fd
  d29 : ∃ fd, keepIn K (.ref 375) = true → Fun K "crowded_row" "crowded_row" s_crowded_row 375 fd
  d30 : ∃ fd, keepIn K (.ref 380) = true → Fun K "arrivals" "arrivals" s_arrivals 380 fd
  d31 : ∃ fd, keepIn K (.ref 385) = true → FunC K "is_row_of" "is_row_of" s_is_row_of 385 fd 384
  t31 : hdB K 384 382 = true
  o31 : (K.lookup 382).isNone = true
  d32 : ∃ fd, keepIn K (.ref 390) = true → FunC K "dealt" "dealt" s_dealt 390 fd 389
  t32 : hdB K 389 387 = true
  o32 : (K.lookup 387).isNone = true
  d33 : ∃ fd, keepIn K (.ref 397) = true → Fun K "share_of" "share_of" s_share_of 397 fd
  d34 : ∃ fd, keepIn K (.ref 402) = true → Fun K "most_crawlers" "most_crawlers" s_most_crawlers 402 fd
  d35 : ∃ fd, keepIn K (.ref 407) = true → Fun K "span_of" "span_of" s_span_of 407 fd
  d36 : ∃ fd, keepIn K (.ref 412) = true → Fun K "room" "room" s_room 412 fd
  d37 : ∃ fd, keepIn K (.ref 419) = true → Fun K "has_room" "has_room" s_has_room 419 fd
  d38 : ∃ fd, keepIn K (.ref 426) = true → Fun K "shifted" "shifted" s_shifted 426 fd
  d39 : ∃ fd, keepIn K (.ref 441) = true → FunD K "__init__" "Monitor.__init__" (defArgs s_init) (defBody s_init) (defScope s_init) [] [("moment", .int 0)] 441 fd
  d40 : ∃ fd, keepIn K (.ref 448) = true → Fun K "rules" "Monitor.rules" s_rules 448 fd
  d41 : ∃ fd, keepIn K (.ref 456) = true → Fun K "moment" "Monitor.moment" s_moment 456 fd
  d42 : ∃ fd, keepIn K (.ref 464) = true → Fun K "counts" "Monitor.counts" s_counts 464 fd
  d43 : ∃ fd, keepIn K (.ref 472) = true → Fun K "asked" "Monitor.asked" s_asked 472 fd
  d44 : ∃ fd, keepIn K (.ref 480) = true → Fun K "_check" "Monitor._check" s__check 480 fd
  d45 : ∃ fd, keepIn K (.ref 487) = true → Fun K "_counts_then" "Monitor._counts_then" s__counts_then 487 fd
  d46 : ∃ fd, keepIn K (.ref 494) = true → Fun K "_asked_then" "Monitor._asked_then" s__asked_then 494 fd
  d47 : ∃ fd, keepIn K (.ref 502) = true → FunD K "lets" "Monitor.lets" (defArgs s_lets) (defBody s_lets) (defScope s_lets) [.int 1] [] 502 fd
  d48 : ∃ fd, keepIn K (.ref 510) = true → FunD K "ask" "Monitor.ask" (defArgs s_ask) (defBody s_ask) (defScope s_ask) [.int 1] [] 510 fd
  d49 : ∃ fd, keepIn K (.ref 518) = true → FunD K "soonest" "Monitor.soonest" (defArgs s_soonest) (defBody s_soonest) (defScope s_soonest) [.int 1] [] 518 fd
  d50 : ∃ fd, keepIn K (.ref 525) = true → Fun K "undo" "Monitor.undo" s_undo 525 fd
  d51 : ∃ fd, keepIn K (.ref 539) = true → Fun K "_law_well" "_law_well" s_l_well 539 fd
  d52 : ∃ fd, keepIn K (.ref 546) = true → Fun K "_law_pick" "_law_pick" s_l_pick 546 fd
  d53 : ∃ fd, keepIn K (.ref 553) = true → Fun K "_law_one" "_law_one" s_l_one 553 fd
  d54 : ∃ fd, keepIn K (.ref 560) = true → Fun K "_law_open" "_law_open" s_l_open 560 fd
  d55 : ∃ fd, keepIn K (.ref 565) = true → Fun K "_law_wrong_at" "_law_wrong_at" s_l_wrong_at 565 fd
  d56 : ∃ fd, keepIn K (.ref 570) = true → Fun K "_law_may" "_law_may" s_l_may 570 fd
  d57 : ∃ fd, keepIn K (.ref 577) = true → Fun K "_law_soonest" "_law_soonest" s_l_soonest 577 fd
  d58 : ∃ fd, keepIn K (.ref 584) = true → Fun K "_law_is_whole" "_law_is_whole" s_l_is_whole 584 fd
  d59 : ∃ fd, keepIn K (.ref 591) = true → Fun K "_law_asked" "_law_asked" s_l_asked 591 fd
  d60 : ∃ fd, keepIn K (.ref 598) = true → Fun K "_law_some_asks" "_law_some_asks" s_l_some_asks 598 fd
  d61 : ∃ fd, keepIn K (.ref 605) = true → Fun K "_law_late" "_law_late" s_l_late 605 fd
  d62 : ∃ fd, keepIn K (.ref 610) = true → Fun K "_law_due" "_law_due" s_l_due 610 fd
  d63 : ∃ fd, keepIn K (.ref 615) = true → Fun K "_law_come" "_law_come" s_l_come 615 fd
  d64 : ∃ fd, keepIn K (.ref 620) = true → Fun K "_law_row_formed" "_law_row_formed" s_l_row_formed 620 fd
  d65 : ∃ fd, keepIn K (.ref 625) = true → Fun K "_law_one_more_right" "_law_one_more_right" s_l_one_more_right 625 fd
  d66 : ∃ fd, keepIn K (.ref 630) = true → Fun K "_law_right" "_law_right" s_l_right 630 fd
  d67 : ∃ fd, keepIn K (.ref 635) = true → Fun K "law" "law" s_law 635 fd
theorem all_ok {P : Program} {w : World} {K : Frag} {h : Heap} {mg : Str → Option Value} {fa : Addr} (Z : Facts K) (X : K.In h) (G : h.Ns mainGlobals mg) (hfa : mg "law" = some (.ref fa)) (h38 : h.get? 38 = some (tabO #[])) (h271 : h.get? 271 = some (tabO #[])) (h278 : h.get? 278 = some (tabO #[])) (h382 : h.get? 382 = some (tabO #[])) (h387 : h.get? 387 = some (tabO #[])) :
    ∃ (fd : FuncData) (cs : List (Addr × Addr)) (sp : Sp), (∀ p ∈ cs, h.get? p.2 = some (tabO #[])) ∧ (∀ p ∈ cs, K.lookup p.2 = none) ∧ (∀ p ∈ cs, CodeHd h p.1 p.2) ∧ (∀ (s : Shared) (u : Value), BindsTo s fd ⟨[u], []⟩ [("_law_script", u)]) ∧
      (∀ (H : Hp) (a : Addr) (ns : List Int), ns.length ≤ 63 → (∀ p ∈ cs, H p.2 = some (.tbl #[])) → SqL K H a (ns.map V.int) → sp [.ref a] H (fun v _ => v = .bl true) fun _ _ _ => False) ∧
      ∀ base : Heap, K.In base → base.Ns mainGlobals mg → (∀ p ∈ cs, TabB base mg p.1 p.2) → FnQ P w K mg base CX0 12 fa fd ["_law_script"] sp := by
  have nf := nameF X G Z.f
  have nn := nameN X G Z.n
  have e := hfa.symm.trans (nf 55 (by decide)).1
  cases e
  obtain ⟨z0, u0⟩ := Z.d0
  have u0 := u0 (nf 0 (by decide)).2
  obtain ⟨z1, u1⟩ := Z.d1
  have u1 := u1 (nf 1 (by decide)).2
  obtain ⟨z2, u2⟩ := Z.d2
  have u2 := u2 (nf 2 (by decide)).2
  obtain ⟨z3, u3⟩ := Z.d3
  have u3 := u3 (nf 3 (by decide)).2
  obtain ⟨z4, u4⟩ := Z.d4
  have u4 := u4 (nf 4 (by decide)).2
  obtain ⟨z5, u5⟩ := Z.d5
  have u5 := u5 (nf 5 (by decide)).2
  obtain ⟨z6, u6⟩ := Z.d6
  have u6 := u6 (nf 6 (by decide)).2
  obtain ⟨z7, u7⟩ := Z.d7
  have u7 := u7 (nf 7 (by decide)).2
  obtain ⟨z8, u8⟩ := Z.d8
  have u8 := u8 (nf 8 (by decide)).2
  obtain ⟨z9, u9⟩ := Z.d9
  have u9 := u9 (nf 9 (by decide)).2
  obtain ⟨z10, u10⟩ := Z.d10
  have u10 := u10 (nf 10 (by decide)).2
  obtain ⟨z11, u11⟩ := Z.d11
  have u11 := u11 (nf 11 (by decide)).2
  obtain ⟨z12, u12⟩ := Z.d12
  have u12 := u12 (nf 12 (by decide)).2
  obtain ⟨z13, u13⟩ := Z.d13
  have u13 := u13 (nf 13 (by decide)).2
  obtain ⟨z14, u14⟩ := Z.d14
  have u14 := u14 (nf 14 (by decide)).2
  obtain ⟨z15, u15⟩ := Z.d15
  have u15 := u15 (nf 15 (by decide)).2
  obtain ⟨z16, u16⟩ := Z.d16
  have u16 := u16 (nf 16 (by decide)).2
  obtain ⟨z17, u17⟩ := Z.d17
  have u17 := u17 (nf 17 (by decide)).2
  obtain ⟨z18, u18⟩ := Z.d18
  have u18 := u18 (nf 18 (by decide)).2
  obtain ⟨z19, u19⟩ := Z.d19
  have u19 := u19 (nf 19 (by decide)).2
  obtain ⟨z20, u20⟩ := Z.d20
  have u20 := u20 (nf 20 (by decide)).2
  obtain ⟨z21, u21⟩ := Z.d21
  have u21 := u21 (nf 21 (by decide)).2
  obtain ⟨z22, u22⟩ := Z.d22
  have u22 := u22 (nf 22 (by decide)).2
  obtain ⟨z23, u23⟩ := Z.d23
  have u23 := u23 (nf 23 (by decide)).2
  obtain ⟨z24, u24⟩ := Z.d24
  have u24 := u24 (nf 24 (by decide)).2
  obtain ⟨z25, u25⟩ := Z.d25
  have u25 := u25 (nf 25 (by decide)).2
  obtain ⟨z26, u26⟩ := Z.d26
  have u26 := u26 (nf 26 (by decide)).2
  obtain ⟨z27, u27⟩ := Z.d27
  have u27 := u27 (nf 27 (by decide)).2
  obtain ⟨z28, u28⟩ := Z.d28
  have u28 := u28 (nf 28 (by decide)).2
  obtain ⟨z29, u29⟩ := Z.d29
  have u29 := u29 (nf 29 (by decide)).2
  obtain ⟨z30, u30⟩ := Z.d30
  have u30 := u30 (nf 30 (by decide)).2
  obtain ⟨z31, u31⟩ := Z.d31
  have u31 := u31 (nf 31 (by decide)).2
  obtain ⟨z32, u32⟩ := Z.d32
  have u32 := u32 (nf 32 (by decide)).2
  obtain ⟨z33, u33⟩ := Z.d33
  have u33 := u33 (nf 33 (by decide)).2
  obtain ⟨z34, u34⟩ := Z.d34
  have u34 := u34 (nf 34 (by decide)).2
  obtain ⟨z35, u35⟩ := Z.d35
  have u35 := u35 (nf 35 (by decide)).2
  obtain ⟨z36, u36⟩ := Z.d36
  have u36 := u36 (nf 36 (by decide)).2
  obtain ⟨z37, u37⟩ := Z.d37
  have u37 := u37 (nf 37 (by decide)).2
  obtain ⟨z38, u38⟩ := Z.d38
  have u38 := u38 (nf 38 (by decide)).2
  obtain ⟨z39, u39⟩ := Z.d39
  obtain ⟨z40, u40⟩ := Z.d40
  obtain ⟨z41, u41⟩ := Z.d41
  obtain ⟨z42, u42⟩ := Z.d42
  obtain ⟨z43, u43⟩ := Z.d43
  obtain ⟨z44, u44⟩ := Z.d44
  obtain ⟨z45, u45⟩ := Z.d45
  obtain ⟨z46, u46⟩ := Z.d46
  obtain ⟨z47, u47⟩ := Z.d47
  obtain ⟨z48, u48⟩ := Z.d48
  obtain ⟨z49, u49⟩ := Z.d49
  obtain ⟨z50, u50⟩ := Z.d50
  obtain ⟨z51, u51⟩ := Z.d51
  have u51 := u51 (nf 39 (by decide)).2
  obtain ⟨z52, u52⟩ := Z.d52
  have u52 := u52 (nf 40 (by decide)).2
  obtain ⟨z53, u53⟩ := Z.d53
  have u53 := u53 (nf 41 (by decide)).2
  obtain ⟨z54, u54⟩ := Z.d54
  have u54 := u54 (nf 42 (by decide)).2
  obtain ⟨z55, u55⟩ := Z.d55
  have u55 := u55 (nf 43 (by decide)).2
  obtain ⟨z56, u56⟩ := Z.d56
  have u56 := u56 (nf 44 (by decide)).2
  obtain ⟨z57, u57⟩ := Z.d57
  have u57 := u57 (nf 45 (by decide)).2
  obtain ⟨z58, u58⟩ := Z.d58
  have u58 := u58 (nf 46 (by decide)).2
  obtain ⟨z59, u59⟩ := Z.d59
  have u59 := u59 (nf 47 (by decide)).2
  obtain ⟨z60, u60⟩ := Z.d60
  have u60 := u60 (nf 48 (by decide)).2
  obtain ⟨z61, u61⟩ := Z.d61
  have u61 := u61 (nf 49 (by decide)).2
  obtain ⟨z62, u62⟩ := Z.d62
  have u62 := u62 (nf 50 (by decide)).2
  obtain ⟨z63, u63⟩ := Z.d63
  have u63 := u63 (nf 51 (by decide)).2
  obtain ⟨z64, u64⟩ := Z.d64
  have u64 := u64 (nf 52 (by decide)).2
  obtain ⟨z65, u65⟩ := Z.d65
  have u65 := u65 (nf 53 (by decide)).2
  obtain ⟨z66, u66⟩ := Z.d66
  have u66 := u66 (nf 54 (by decide)).2
  obtain ⟨z67, u67⟩ := Z.d67
  have u67 := u67 (nf 55 (by decide)).2
  have u40 := u40 (propMonitor Z.pMonitor 0 (by decide)).2
  have u41 := u41 (propMonitor Z.pMonitor 1 (by decide)).2
  have u42 := u42 (propMonitor Z.pMonitor 2 (by decide)).2
  have u43 := u43 (propMonitor Z.pMonitor 3 (by decide)).2
  have qMonitor := Z.cMonitor
  unfold chkMonitor at qMonitor
  simp only [Bool.and_eq_true, decide_eq_true_eq] at qMonitor
  obtain ⟨r1, r2, r3, r4, r5, r6, r7, r8⟩ := qMonitor
  have u39 := u39 (methMonitor Z.mMonitor 0 (by decide)).kp
  have u44 := u44 (methMonitor Z.mMonitor 1 (by decide)).kp
  have u45 := u45 (methMonitor Z.mMonitor 2 (by decide)).kp
  have u46 := u46 (methMonitor Z.mMonitor 3 (by decide)).kp
  have u47 := u47 (methMonitor Z.mMonitor 4 (by decide)).kp
  have u48 := u48 (methMonitor Z.mMonitor 5 (by decide)).kp
  have u49 := u49 (methMonitor Z.mMonitor 6 (by decide)).kp
  have u50 := u50 (methMonitor Z.mMonitor 7 (by decide)).kp
  obtain ⟨w0, y0, al0⟩ := tup_of Z.k0
  obtain ⟨w1, y1⟩ := int_of Z.k1
  obtain ⟨w2, y2⟩ := int_of Z.k2
  obtain ⟨w3, y3⟩ := int_of Z.k3
  obtain ⟨w4, y4⟩ := int_of Z.k4
  obtain ⟨w5, y5⟩ := int_of Z.k5
  obtain ⟨w6, y6⟩ := int_of Z.k6
  obtain ⟨w7, y7⟩ := int_of Z.k7
  let T : D K mg :=
   {
    f_opens := 29,
    d_opens := z0,
    U_opens := u0,
    g_opens := (nf 0 (by decide)).1,
    f_next_open := 36,
    d_next_open := z1,
    U_next_open := u1,
    g_next_open := (nf 1 (by decide)).1,
    f_keeps_apart := 43,
    d_keeps_apart := z2,
    c_keeps_apart := 42,
    P_keeps_apart := 38,
    V_keeps_apart := u2,
    g_keeps_apart := (nf 2 (by decide)).1,
    f_first_wrong_ask := 50,
    d_first_wrong_ask := z3,
    U_first_wrong_ask := u3,
    g_first_wrong_ask := (nf 3 (by decide)).1,
    f_next_ask := 55,
    d_next_ask := z4,
    U_next_ask := u4,
    g_next_ask := (nf 4 (by decide)).1,
    f_soonest_asks := 62,
    d_soonest_asks := z5,
    U_soonest_asks := u5,
    g_soonest_asks := (nf 5 (by decide)).1,
    f_most_between := 69,
    d_most_between := z6,
    U_most_between := u6,
    g_most_between := (nf 6 (by decide)).1,
    f_most_within := 76,
    d_most_within := z7,
    U_most_within := u7,
    g_most_within := (nf 7 (by decide)).1,
    f_is_whole := 234,
    d_is_whole := z8,
    U_is_whole := u8,
    g_is_whole := (nf 8 (by decide)).1,
    f_is_between := 241,
    d_is_between := z9,
    U_is_between := u9,
    g_is_between := (nf 9 (by decide)).1,
    f_is_tuple := 248,
    d_is_tuple := z10,
    U_is_tuple := u10,
    g_is_tuple := (nf 10 (by decide)).1,
    f_check_from := 255,
    d_check_from := z11,
    U_check_from := u11,
    g_check_from := (nf 11 (by decide)).1,
    f_check_between := 262,
    d_check_between := z12,
    U_check_between := u12,
    g_check_between := (nf 12 (by decide)).1,
    f_is_limit := 269,
    d_is_limit := z13,
    U_is_limit := u13,
    g_is_limit := (nf 13 (by decide)).1,
    f_are_limits := 276,
    d_are_limits := z14,
    c_are_limits := 275,
    P_are_limits := 271,
    V_are_limits := u14,
    g_are_limits := (nf 14 (by decide)).1,
    f_are_hours := 283,
    d_are_hours := z15,
    c_are_hours := 282,
    P_are_hours := 278,
    V_are_hours := u15,
    g_are_hours := (nf 15 (by decide)).1,
    f_are_rules := 290,
    d_are_rules := z16,
    U_are_rules := u16,
    g_are_rules := (nf 16 (by decide)).1,
    f_check_limits := 297,
    d_check_limits := z17,
    U_check_limits := u17,
    g_check_limits := (nf 17 (by decide)).1,
    f_check_rules := 304,
    d_check_rules := z18,
    U_check_rules := u18,
    g_check_rules := (nf 18 (by decide)).1,
    f_first_back := 311,
    d_first_back := z19,
    U_first_back := u19,
    g_first_back := (nf 19 (by decide)).1,
    f_check_asks := 318,
    d_check_asks := z20,
    U_check_asks := u20,
    g_check_asks := (nf 20 (by decide)).1,
    f_check_amount := 325,
    d_check_amount := z21,
    U_check_amount := u21,
    g_check_amount := (nf 21 (by decide)).1,
    f_is_polite := 332,
    d_is_polite := z22,
    U_is_polite := u22,
    g_is_polite := (nf 22 (by decide)).1,
    f_first_wrong := 339,
    d_first_wrong := z23,
    U_first_wrong := u23,
    g_first_wrong := (nf 23 (by decide)).1,
    f_is_part := 346,
    d_is_part := z24,
    U_is_part := u24,
    g_is_part := (nf 24 (by decide)).1,
    f_check_parts := 353,
    d_check_parts := z25,
    U_check_parts := u25,
    g_check_parts := (nf 25 (by decide)).1,
    f_broken_limit := 358,
    d_broken_limit := z26,
    U_broken_limit := u26,
    g_broken_limit := (nf 26 (by decide)).1,
    f_keep := 365,
    d_keep := z27,
    U_keep := u27,
    g_keep := (nf 27 (by decide)).1,
    f_breaking := 370,
    d_breaking := z28,
    U_breaking := u28,
    g_breaking := (nf 28 (by decide)).1,
    f_crowded_row := 375,
    d_crowded_row := z29,
    U_crowded_row := u29,
    g_crowded_row := (nf 29 (by decide)).1,
    f_arrivals := 380,
    d_arrivals := z30,
    U_arrivals := u30,
    g_arrivals := (nf 30 (by decide)).1,
    f_is_row_of := 385,
    d_is_row_of := z31,
    c_is_row_of := 384,
    P_is_row_of := 382,
    V_is_row_of := u31,
    g_is_row_of := (nf 31 (by decide)).1,
    f_dealt := 390,
    d_dealt := z32,
    c_dealt := 389,
    P_dealt := 387,
    V_dealt := u32,
    g_dealt := (nf 32 (by decide)).1,
    f_share_of := 397,
    d_share_of := z33,
    U_share_of := u33,
    g_share_of := (nf 33 (by decide)).1,
    f_most_crawlers := 402,
    d_most_crawlers := z34,
    U_most_crawlers := u34,
    g_most_crawlers := (nf 34 (by decide)).1,
    f_span_of := 407,
    d_span_of := z35,
    U_span_of := u35,
    g_span_of := (nf 35 (by decide)).1,
    f_room := 412,
    d_room := z36,
    U_room := u36,
    g_room := (nf 36 (by decide)).1,
    f_has_room := 419,
    d_has_room := z37,
    U_has_room := u37,
    g_has_room := (nf 37 (by decide)).1,
    f_shifted := 426,
    d_shifted := z38,
    U_shifted := u38,
    g_shifted := (nf 38 (by decide)).1,
    f_init := 441,
    d_init := z39,
    W_init := u39,
    f_rules := 448,
    d_rules := z40,
    U_rules := u40,
    f_moment := 456,
    d_moment := z41,
    U_moment := u41,
    f_counts := 464,
    d_counts := z42,
    U_counts := u42,
    f_asked := 472,
    d_asked := z43,
    U_asked := u43,
    f__check := 480,
    d__check := z44,
    U__check := u44,
    f__counts_then := 487,
    d__counts_then := z45,
    U__counts_then := u45,
    f__asked_then := 494,
    d__asked_then := z46,
    U__asked_then := u46,
    f_lets := 502,
    d_lets := z47,
    W_lets := u47,
    f_ask := 510,
    d_ask := z48,
    W_ask := u48,
    f_soonest := 518,
    d_soonest := z49,
    W_soonest := u49,
    f_undo := 525,
    d_undo := z50,
    U_undo := u50,
    f_l_well := 539,
    d_l_well := z51,
    U_l_well := u51,
    g_l_well := (nf 39 (by decide)).1,
    f_l_pick := 546,
    d_l_pick := z52,
    U_l_pick := u52,
    g_l_pick := (nf 40 (by decide)).1,
    f_l_one := 553,
    d_l_one := z53,
    U_l_one := u53,
    g_l_one := (nf 41 (by decide)).1,
    f_l_open := 560,
    d_l_open := z54,
    U_l_open := u54,
    g_l_open := (nf 42 (by decide)).1,
    f_l_wrong_at := 565,
    d_l_wrong_at := z55,
    U_l_wrong_at := u55,
    g_l_wrong_at := (nf 43 (by decide)).1,
    f_l_may := 570,
    d_l_may := z56,
    U_l_may := u56,
    g_l_may := (nf 44 (by decide)).1,
    f_l_soonest := 577,
    d_l_soonest := z57,
    U_l_soonest := u57,
    g_l_soonest := (nf 45 (by decide)).1,
    f_l_is_whole := 584,
    d_l_is_whole := z58,
    U_l_is_whole := u58,
    g_l_is_whole := (nf 46 (by decide)).1,
    f_l_asked := 591,
    d_l_asked := z59,
    U_l_asked := u59,
    g_l_asked := (nf 47 (by decide)).1,
    f_l_some_asks := 598,
    d_l_some_asks := z60,
    U_l_some_asks := u60,
    g_l_some_asks := (nf 48 (by decide)).1,
    f_l_late := 605,
    d_l_late := z61,
    U_l_late := u61,
    g_l_late := (nf 49 (by decide)).1,
    f_l_due := 610,
    d_l_due := z62,
    U_l_due := u62,
    g_l_due := (nf 50 (by decide)).1,
    f_l_come := 615,
    d_l_come := z63,
    U_l_come := u63,
    g_l_come := (nf 51 (by decide)).1,
    f_l_row_formed := 620,
    d_l_row_formed := z64,
    U_l_row_formed := u64,
    g_l_row_formed := (nf 52 (by decide)).1,
    f_l_one_more_right := 625,
    d_l_one_more_right := z65,
    U_l_one_more_right := u65,
    g_l_one_more_right := (nf 53 (by decide)).1,
    f_l_right := 630,
    d_l_right := z66,
    U_l_right := u66,
    g_l_right := (nf 54 (by decide)).1,
    f_law := 635,
    d_law := z67,
    U_law := u67,
    g_law := (nf 55 (by decide)).1,
    p_rules := 449,
    Pr_rules := (propMonitor Z.pMonitor 0 (by decide)).1,
    p_moment := 457,
    Pr_moment := (propMonitor Z.pMonitor 1 (by decide)).1,
    p_counts := 465,
    Pr_counts := (propMonitor Z.pMonitor 2 (by decide)).1,
    p_asked := 473,
    Pr_asked := (propMonitor Z.pMonitor 3 (by decide)).1,
    C_Monitor := 528,
    cl_Monitor := ⟨r1, r2, r3, r4⟩,
    g_Monitor := mg_of X G r5,
    mk_Monitor := ⟨r6, r7, (methMonitor Z.mMonitor 0 (by decide)).fn, r8⟩,
    n__asked := noAMonitor Z.aMonitor 0 (by decide),
    n__counts := noAMonitor Z.aMonitor 1 (by decide),
    n__earlier := noAMonitor Z.aMonitor 2 (by decide),
    n__moment := noAMonitor Z.aMonitor 3 (by decide),
    n__rules := noAMonitor Z.aMonitor 4 (by decide),
    M__check := methMonitor Z.mMonitor 1 (by decide),
    M__counts_then := methMonitor Z.mMonitor 2 (by decide),
    M__asked_then := methMonitor Z.mMonitor 3 (by decide),
    M_lets := methMonitor Z.mMonitor 4 (by decide),
    M_ask := methMonitor Z.mMonitor 5 (by decide),
    M_soonest := methMonitor Z.mMonitor 6 (by decide),
    M_undo := methMonitor Z.mMonitor 7 (by decide),
    a_ALWAYS := w0,
    k_ALWAYS := al0,
    g_ALWAYS := mg_of X G y0,
    t_MOST_ASKS := w1,
    g_MOST_ASKS := mg_of X G y1,
    t_WIDEST := w2,
    g_WIDEST := mg_of X G y2,
    t_MOST_PAIRS := w3,
    g_MOST_PAIRS := mg_of X G y3,
    t_LONGEST_ROW := w4,
    g_LONGEST_ROW := mg_of X G y4,
    t_MOST_MOMENTS := w5,
    g_MOST_MOMENTS := mg_of X G y5,
    t_MOST_PARTS := w6,
    g_MOST_PARTS := mg_of X G y6,
    t_LATEST := w7,
    g_LATEST := mg_of X G y7,
    abs := nn 0 (by decide),
    all := nn 1 (by decide),
    any := nn 2 (by decide),
    bool := nn 3 (by decide),
    divmod := nn 4 (by decide),
    enumerate := nn 5 (by decide),
    int := nn 6 (by decide),
    isinstance := nn 7 (by decide),
    len := nn 8 (by decide),
    list := nn 9 (by decide),
    max := nn 10 (by decide),
    min := nn 11 (by decide),
    property := nn 12 (by decide),
    range := nn 13 (by decide),
    repr := nn 14 (by decide),
    sorted := nn 15 (by decide),
    sum := nn 16 (by decide),
    tuple := nn 17 (by decide) }
  refine ⟨T.d_law, [(42, 38), (275, 271), (282, 278), (384, 382), (389, 387)], spLaw T, ?_, ?_, ?_, ?_, ?_, fun base _ _ TB => ok_law T ⟨TB (275, 271) (by simp), TB (282, 278) (by simp), TB (42, 38) (by simp), TB (384, 382) (by simp), TB (389, 387) (by simp)⟩ ⟨mg_of X G Z.b1Barred, Z.b2Barred, Z.b3Barred, Z.b4Barred, Z.b5Barred, Z.b6Barred⟩ ⟨mg_of X G Z.b1NoShare, Z.b2NoShare, Z.b3NoShare, Z.b4NoShare, Z.b5NoShare, Z.b6NoShare⟩ (sysM_of Z.s)⟩
  · intro p hp
    simp only [List.mem_cons, List.not_mem_nil, or_false] at hp
    rcases hp with rfl | rfl | rfl | rfl | rfl
    · exact h38
    · exact h271
    · exact h278
    · exact h382
    · exact h387
  · intro p hp
    simp only [List.mem_cons, List.not_mem_nil, or_false] at hp
    rcases hp with rfl | rfl | rfl | rfl | rfl
    · exact Option.isNone_iff_eq_none.mp Z.o2
    · exact Option.isNone_iff_eq_none.mp Z.o14
    · exact Option.isNone_iff_eq_none.mp Z.o15
    · exact Option.isNone_iff_eq_none.mp Z.o31
    · exact Option.isNone_iff_eq_none.mp Z.o32
  · intro p hp
    simp only [List.mem_cons, List.not_mem_nil, or_false] at hp
    rcases hp with rfl | rfl | rfl | rfl | rfl
    · exact hdB_ok X (by decide) Z.t2
    · exact hdB_ok X (by decide) Z.t14
    · exact hdB_ok X (by decide) Z.t15
    · exact hdB_ok X (by decide) Z.t31
    · exact hdB_ok X (by decide) Z.t32
  · obtain ⟨oc, od, kV, doc, pm, an, cdv, ct, osl, e, _⟩ := T.U_law.ex
    rw [e]
    exact fun s u => .of_eq rfl
  · intro H a ns hl hT hS
    refine ⟨a, ns, rfl, hS, hl, fun q hq => ?_, fun _ => rfl⟩
    simp only [tabs, List.mem_cons, List.not_mem_nil, or_false] at hq
    rcases hq with rfl | rfl | rfl | rfl | rfl
    · exact ⟨#[], hT (275, 271) (by simp), by simp [TriplesOk]⟩
    · exact ⟨#[], hT (282, 278) (by simp), by simp [TriplesOk]⟩
    · exact ⟨#[], hT (42, 38) (by simp), by simp [TriplesOk]⟩
    · exact ⟨#[], hT (384, 382) (by simp), by simp [TriplesOk]⟩
    · exact ⟨#[], hT (389, 387) (by simp), by simp [TriplesOk]⟩
end KP
set_option Elab.async false
set_option maxRecDepth 100000
set_option maxHeartbeats 8000000
set_option linter.all false
namespace KP
open PySem PySem.Spec PyProof.Rows L2 Gr PySem.W
/-! the head: beside the written part the table of the modules is looked at, and the tables of the code objects that make generators -/
noncomputable def sysO (P : Params) : Obj := ((boot_heap P).get? sysModules).getD default
noncomputable def withSys (K : Params → Frag) (P : Params) : Frag := (sysModules, sysO P) :: K P
theorem lookup_withSys {K : Params → Frag} {P : Params} (b : Addr) (h : b ≠ sysModules) : (withSys K P).lookup b = (K P).lookup b := by
  unfold withSys
  rw [List.lookup_cons, beq_eq_false_iff_ne.mpr h]
noncomputable def withTabs (K : Params → Frag) (P : Params) : Frag := (38, tabO #[]) :: (271, tabO #[]) :: (278, tabO #[]) :: (382, tabO #[]) :: (387, tabO #[]) :: withSys K P
theorem tabE {K : Params → Frag} {as : List Addr} (e : ∀ P, as = (K P).map (·.1)) (P : Params) : 38 :: 271 :: 278 :: 382 :: 387 :: sysModules :: as = (withTabs K P).map (·.1) := congrArg (fun l => 38 :: 271 :: 278 :: 382 :: 387 :: sysModules :: l) (e P)
theorem tabs_in {K : Params → Frag} {P : Params} {h : Heap} (X : (withTabs K P).In h) (o38 : ((withSys K P).lookup 38).isNone = true) (o271 : ((withSys K P).lookup 271).isNone = true) (o278 : ((withSys K P).lookup 278).isNone = true) (o382 : ((withSys K P).lookup 382).isNone = true) (o387 : ((withSys K P).lookup 387).isNone = true) : (withSys K P).In h ∧ h.get? 38 = some (tabO #[]) ∧ h.get? 271 = some (tabO #[]) ∧ h.get? 278 = some (tabO #[]) ∧ h.get? 382 = some (tabO #[]) ∧ h.get? 387 = some (tabO #[]) := by
  refine ⟨fun b o e => X b o ?_, X 38 _ (by rfl), X 271 _ (by rfl), X 278 _ (by rfl), X 382 _ (by rfl), X 387 _ (by rfl)⟩
  have n38 : b ≠ 38 := fun q => by
    rw [q, Option.isNone_iff_eq_none.mp o38] at e
    cases e
  have n271 : b ≠ 271 := fun q => by
    rw [q, Option.isNone_iff_eq_none.mp o271] at e
    cases e
  have n278 : b ≠ 278 := fun q => by
    rw [q, Option.isNone_iff_eq_none.mp o278] at e
    cases e
  have n382 : b ≠ 382 := fun q => by
    rw [q, Option.isNone_iff_eq_none.mp o382] at e
    cases e
  have n387 : b ≠ 387 := fun q => by
    rw [q, Option.isNone_iff_eq_none.mp o387] at e
    cases e
  unfold withTabs
  rw [List.lookup_cons, beq_eq_false_iff_ne.mpr n38]
  rw [List.lookup_cons, beq_eq_false_iff_ne.mpr n271]
  rw [List.lookup_cons, beq_eq_false_iff_ne.mpr n278]
  rw [List.lookup_cons, beq_eq_false_iff_ne.mpr n382]
  rw [List.lookup_cons, beq_eq_false_iff_ne.mpr n387]
  exact e
end KP
open PySem PySem.W PyProof.Rows
local macro_rules
  | `(tactic| o_head ($_ $K $as $p)) => `(tactic| o_head PySem.W.kHook (KP.withTabs $K) (38 :: 271 :: 278 :: 382 :: 387 :: PySem.sysModules :: $as) (KP.tabE (K := $K) (as := $as) $p))
set_option maxHeartbeats 0 in
theorem PySem.Challenge.cw_gentlerounds_k77_whole_dealt_crawlers_st_holds : PySem.Challenge.rw_gentlerounds_k77_whole_dealt_crawlers_st.Holds := by
  w_on; o_law; k_head; (case hw => w_witness2)
  k_fill
  refine Gr.walk_ofQT (l := PySem.Challenge.rw_gentlerounds_k77_whole_dealt_crawlers_st) (n := 63) (k := 12) (x := "_law_script") (K := KP.withSys _) rfl (by decide) rfl ⟨rfl, by decide, by decide⟩ (fun w h Y => (KP.tabs_in (PySem.W.kIn_of Y) (by kernel_rfl) (by kernel_rfl) (by kernel_rfl) (by kernel_rfl) (by kernel_rfl)).1) ?F
  case F => as_aux_lemma =>
    intro w mg fa h Y KX G hmg
    have Q := KP.tabs_in (PySem.W.kIn_of Y) (by kernel_rfl) (by kernel_rfl) (by kernel_rfl) (by kernel_rfl) (by kernel_rfl)
    refine' KP.all_ok (KP.Facts.mk ?n ?f ?s ?cMonitor ?aMonitor ?mMonitor ?pMonitor ?k0 ?k1 ?k2 ?k3 ?k4 ?k5 ?k6 ?k7 ?b1Barred ?b2Barred ?b3Barred ?b4Barred ?b5Barred ?b6Barred ?b1NoShare ?b2NoShare ?b3NoShare ?b4NoShare ?b5NoShare ?b6NoShare ?d0 ?d1 ?d2 ?t2 ?o2 ?d3 ?d4 ?d5 ?d6 ?d7 ?d8 ?d9 ?d10 ?d11 ?d12 ?d13 ?d14 ?t14 ?o14 ?d15 ?t15 ?o15 ?d16 ?d17 ?d18 ?d19 ?d20 ?d21 ?d22 ?d23 ?d24 ?d25 ?d26 ?d27 ?d28 ?d29 ?d30 ?d31 ?t31 ?o31 ?d32 ?t32 ?o32 ?d33 ?d34 ?d35 ?d36 ?d37 ?d38 ?d39 ?d40 ?d41 ?d42 ?d43 ?d44 ?d45 ?d46 ?d47 ?d48 ?d49 ?d50 ?d51 ?d52 ?d53 ?d54 ?d55 ?d56 ?d57 ?d58 ?d59 ?d60 ?d61 ?d62 ?d63 ?d64 ?d65 ?d66 ?d67) KX G hmg Q.2.1 Q.2.2.1 Q.2.2.2.1 Q.2.2.2.2.1 Q.2.2.2.2.2
    (case n => as_aux_lemma => kernel_rfl)
    (case f => as_aux_lemma => kernel_rfl)
    (case s => as_aux_lemma => kernel_rfl)
    (case cMonitor => as_aux_lemma => kernel_rfl)
    (case aMonitor => as_aux_lemma => kernel_rfl)
    (case mMonitor => as_aux_lemma => kernel_rfl)
    (case pMonitor => as_aux_lemma => kernel_rfl)
    (case k0 => as_aux_lemma => kernel_rfl)
    (case k1 => as_aux_lemma => kernel_rfl)
    (case k2 => as_aux_lemma => kernel_rfl)
    (case k3 => as_aux_lemma => kernel_rfl)
    (case k4 => as_aux_lemma => kernel_rfl)
    (case k5 => as_aux_lemma => kernel_rfl)
    (case k6 => as_aux_lemma => kernel_rfl)
    (case k7 => as_aux_lemma => kernel_rfl)
    (case b1Barred => as_aux_lemma => kernel_rfl)
    (case b2Barred => as_aux_lemma => kernel_rfl)
    (case b3Barred => as_aux_lemma => kernel_rfl)
    (case b4Barred => as_aux_lemma => kernel_rfl)
    (case b5Barred => as_aux_lemma => kernel_rfl)
    (case b6Barred => as_aux_lemma => kernel_rfl)
    (case b1NoShare => as_aux_lemma => kernel_rfl)
    (case b2NoShare => as_aux_lemma => kernel_rfl)
    (case b3NoShare => as_aux_lemma => kernel_rfl)
    (case b4NoShare => as_aux_lemma => kernel_rfl)
    (case b5NoShare => as_aux_lemma => kernel_rfl)
    (case b6NoShare => as_aux_lemma => kernel_rfl)
    (case d0 => (refine' KP.fun_mkS (f := 29) KP.lookup_withSys (by decide) ?l ?c; (case l => k_is); (case c => kernel_rfl)))
    (case d1 => (refine' KP.fun_mkS (f := 36) KP.lookup_withSys (by decide) ?l ?c; (case l => k_is); (case c => kernel_rfl)))
    (case d2 => (refine' KP.fun_mkC (f := 43) KP.lookup_withSys (by decide) ?l ?c; (case l => k_is); (case c => kernel_rfl)))
    (case t2 => as_aux_lemma => kernel_rfl)
    (case o2 => as_aux_lemma => kernel_rfl)
    (case d3 => (refine' KP.fun_mkS (f := 50) KP.lookup_withSys (by decide) ?l ?c; (case l => k_is); (case c => kernel_rfl)))
    (case d4 => (refine' KP.fun_mkS (f := 55) KP.lookup_withSys (by decide) ?l ?c; (case l => k_is); (case c => kernel_rfl)))
    (case d5 => (refine' KP.fun_mkS (f := 62) KP.lookup_withSys (by decide) ?l ?c; (case l => k_is); (case c => kernel_rfl)))
    (case d6 => (refine' KP.fun_mkS (f := 69) KP.lookup_withSys (by decide) ?l ?c; (case l => k_is); (case c => kernel_rfl)))
    (case d7 => (refine' KP.fun_mkS (f := 76) KP.lookup_withSys (by decide) ?l ?c; (case l => k_is); (case c => kernel_rfl)))
    (case d8 => (refine' KP.fun_mkS (f := 234) KP.lookup_withSys (by decide) ?l ?c; (case l => k_is); (case c => kernel_rfl)))
    (case d9 => (refine' KP.fun_mkS (f := 241) KP.lookup_withSys (by decide) ?l ?c; (case l => k_is); (case c => kernel_rfl)))
    (case d10 => (refine' KP.fun_mkS (f := 248) KP.lookup_withSys (by decide) ?l ?c; (case l => k_is); (case c => kernel_rfl)))
    (case d11 => (refine' KP.fun_mkS (f := 255) KP.lookup_withSys (by decide) ?l ?c; (case l => k_is); (case c => kernel_rfl)))
    (case d12 => (refine' KP.fun_mkS (f := 262) KP.lookup_withSys (by decide) ?l ?c; (case l => k_is); (case c => kernel_rfl)))
    (case d13 => (refine' KP.fun_mkS (f := 269) KP.lookup_withSys (by decide) ?l ?c; (case l => k_is); (case c => kernel_rfl)))
    (case d14 => (refine' KP.fun_mkC (f := 276) KP.lookup_withSys (by decide) ?l ?c; (case l => k_is); (case c => kernel_rfl)))
    (case t14 => as_aux_lemma => kernel_rfl)
    (case o14 => as_aux_lemma => kernel_rfl)
    (case d15 => (refine' KP.fun_mkC (f := 283) KP.lookup_withSys (by decide) ?l ?c; (case l => k_is); (case c => kernel_rfl)))
    (case t15 => as_aux_lemma => kernel_rfl)
    (case o15 => as_aux_lemma => kernel_rfl)
    (case d16 => (refine' KP.fun_mkS (f := 290) KP.lookup_withSys (by decide) ?l ?c; (case l => k_is); (case c => kernel_rfl)))
    (case d17 => (refine' KP.fun_mkS (f := 297) KP.lookup_withSys (by decide) ?l ?c; (case l => k_is); (case c => kernel_rfl)))
    (case d18 => (refine' KP.fun_mkS (f := 304) KP.lookup_withSys (by decide) ?l ?c; (case l => k_is); (case c => kernel_rfl)))
    (case d19 => (refine' KP.fun_mkS (f := 311) KP.lookup_withSys (by decide) ?l ?c; (case l => k_is); (case c => kernel_rfl)))
    (case d20 => (refine' KP.fun_mkS (f := 318) KP.lookup_withSys (by decide) ?l ?c; (case l => k_is); (case c => kernel_rfl)))
    (case d21 => (refine' KP.fun_mkS (f := 325) KP.lookup_withSys (by decide) ?l ?c; (case l => k_is); (case c => kernel_rfl)))
    (case d22 => (refine' KP.fun_mkS (f := 332) KP.lookup_withSys (by decide) ?l ?c; (case l => k_is); (case c => kernel_rfl)))
    (case d23 => (refine' KP.fun_mkS (f := 339) KP.lookup_withSys (by decide) ?l ?c; (case l => k_is); (case c => kernel_rfl)))
    (case d24 => (refine' KP.fun_mkS (f := 346) KP.lookup_withSys (by decide) ?l ?c; (case l => k_is); (case c => kernel_rfl)))
    (case d25 => (refine' KP.fun_mkS (f := 353) KP.lookup_withSys (by decide) ?l ?c; (case l => k_is); (case c => kernel_rfl)))
    (case d26 => (refine' KP.fun_mkS (f := 358) KP.lookup_withSys (by decide) ?l ?c; (case l => k_is); (case c => kernel_rfl)))
    (case d27 => (refine' KP.fun_mkS (f := 365) KP.lookup_withSys (by decide) ?l ?c; (case l => k_is); (case c => kernel_rfl)))
    (case d28 => (refine' KP.fun_mkS (f := 370) KP.lookup_withSys (by decide) ?l ?c; (case l => k_is); (case c => kernel_rfl)))
    (case d29 => (refine' KP.fun_mkS (f := 375) KP.lookup_withSys (by decide) ?l ?c; (case l => k_is); (case c => kernel_rfl)))
    (case d30 => (refine' KP.fun_mkS (f := 380) KP.lookup_withSys (by decide) ?l ?c; (case l => k_is); (case c => kernel_rfl)))
    (case d31 => (refine' KP.fun_mkC (f := 385) KP.lookup_withSys (by decide) ?l ?c; (case l => k_is); (case c => kernel_rfl)))
    (case t31 => as_aux_lemma => kernel_rfl)
    (case o31 => as_aux_lemma => kernel_rfl)
    (case d32 => (refine' KP.fun_mkC (f := 390) KP.lookup_withSys (by decide) ?l ?c; (case l => k_is); (case c => kernel_rfl)))
    (case t32 => as_aux_lemma => kernel_rfl)
    (case o32 => as_aux_lemma => kernel_rfl)
    (case d33 => (refine' KP.fun_mkS (f := 397) KP.lookup_withSys (by decide) ?l ?c; (case l => k_is); (case c => kernel_rfl)))
    (case d34 => (refine' KP.fun_mkS (f := 402) KP.lookup_withSys (by decide) ?l ?c; (case l => k_is); (case c => kernel_rfl)))
    (case d35 => (refine' KP.fun_mkS (f := 407) KP.lookup_withSys (by decide) ?l ?c; (case l => k_is); (case c => kernel_rfl)))
    (case d36 => (refine' KP.fun_mkS (f := 412) KP.lookup_withSys (by decide) ?l ?c; (case l => k_is); (case c => kernel_rfl)))
    (case d37 => (refine' KP.fun_mkS (f := 419) KP.lookup_withSys (by decide) ?l ?c; (case l => k_is); (case c => kernel_rfl)))
    (case d38 => (refine' KP.fun_mkS (f := 426) KP.lookup_withSys (by decide) ?l ?c; (case l => k_is); (case c => kernel_rfl)))
    (case d39 => (refine' KP.fun_mkK (f := 441) (y := PySem.Str.ofString "moment") (n := 0) KP.lookup_withSys (by decide) ?l ?c ?qq; (case l => k_is); (case c => kernel_rfl); (case qq => kernel_rfl)))
    (case d40 => (refine' KP.fun_mkS (f := 448) KP.lookup_withSys (by decide) ?l ?c; (case l => k_is); (case c => kernel_rfl)))
    (case d41 => (refine' KP.fun_mkS (f := 456) KP.lookup_withSys (by decide) ?l ?c; (case l => k_is); (case c => kernel_rfl)))
    (case d42 => (refine' KP.fun_mkS (f := 464) KP.lookup_withSys (by decide) ?l ?c; (case l => k_is); (case c => kernel_rfl)))
    (case d43 => (refine' KP.fun_mkS (f := 472) KP.lookup_withSys (by decide) ?l ?c; (case l => k_is); (case c => kernel_rfl)))
    (case d44 => (refine' KP.fun_mkS (f := 480) KP.lookup_withSys (by decide) ?l ?c; (case l => k_is); (case c => kernel_rfl)))
    (case d45 => (refine' KP.fun_mkS (f := 487) KP.lookup_withSys (by decide) ?l ?c; (case l => k_is); (case c => kernel_rfl)))
    (case d46 => (refine' KP.fun_mkS (f := 494) KP.lookup_withSys (by decide) ?l ?c; (case l => k_is); (case c => kernel_rfl)))
    (case d47 => (refine' KP.fun_mkP (f := 502) (m := 1) KP.lookup_withSys (by decide) ?l ?c ?qq; (case l => k_is); (case c => kernel_rfl); (case qq => kernel_rfl)))
    (case d48 => (refine' KP.fun_mkP (f := 510) (m := 1) KP.lookup_withSys (by decide) ?l ?c ?qq; (case l => k_is); (case c => kernel_rfl); (case qq => kernel_rfl)))
    (case d49 => (refine' KP.fun_mkP (f := 518) (m := 1) KP.lookup_withSys (by decide) ?l ?c ?qq; (case l => k_is); (case c => kernel_rfl); (case qq => kernel_rfl)))
    (case d50 => (refine' KP.fun_mkS (f := 525) KP.lookup_withSys (by decide) ?l ?c; (case l => k_is); (case c => kernel_rfl)))
    (case d51 => (refine' KP.fun_mkS (f := 539) KP.lookup_withSys (by decide) ?l ?c; (case l => k_is); (case c => kernel_rfl)))
    (case d52 => (refine' KP.fun_mkS (f := 546) KP.lookup_withSys (by decide) ?l ?c; (case l => k_is); (case c => kernel_rfl)))
    (case d53 => (refine' KP.fun_mkS (f := 553) KP.lookup_withSys (by decide) ?l ?c; (case l => k_is); (case c => kernel_rfl)))
    (case d54 => (refine' KP.fun_mkS (f := 560) KP.lookup_withSys (by decide) ?l ?c; (case l => k_is); (case c => kernel_rfl)))
    (case d55 => (refine' KP.fun_mkS (f := 565) KP.lookup_withSys (by decide) ?l ?c; (case l => k_is); (case c => kernel_rfl)))
    (case d56 => (refine' KP.fun_mkS (f := 570) KP.lookup_withSys (by decide) ?l ?c; (case l => k_is); (case c => kernel_rfl)))
    (case d57 => (refine' KP.fun_mkS (f := 577) KP.lookup_withSys (by decide) ?l ?c; (case l => k_is); (case c => kernel_rfl)))
    (case d58 => (refine' KP.fun_mkS (f := 584) KP.lookup_withSys (by decide) ?l ?c; (case l => k_is); (case c => kernel_rfl)))
    (case d59 => (refine' KP.fun_mkS (f := 591) KP.lookup_withSys (by decide) ?l ?c; (case l => k_is); (case c => kernel_rfl)))
    (case d60 => (refine' KP.fun_mkS (f := 598) KP.lookup_withSys (by decide) ?l ?c; (case l => k_is); (case c => kernel_rfl)))
    (case d61 => (refine' KP.fun_mkS (f := 605) KP.lookup_withSys (by decide) ?l ?c; (case l => k_is); (case c => kernel_rfl)))
    (case d62 => (refine' KP.fun_mkS (f := 610) KP.lookup_withSys (by decide) ?l ?c; (case l => k_is); (case c => kernel_rfl)))
    (case d63 => (refine' KP.fun_mkS (f := 615) KP.lookup_withSys (by decide) ?l ?c; (case l => k_is); (case c => kernel_rfl)))
    (case d64 => (refine' KP.fun_mkS (f := 620) KP.lookup_withSys (by decide) ?l ?c; (case l => k_is); (case c => kernel_rfl)))
    (case d65 => (refine' KP.fun_mkS (f := 625) KP.lookup_withSys (by decide) ?l ?c; (case l => k_is); (case c => kernel_rfl)))
    (case d66 => (refine' KP.fun_mkS (f := 630) KP.lookup_withSys (by decide) ?l ?c; (case l => k_is); (case c => kernel_rfl)))
    (case d67 => (refine' KP.fun_mkS (f := 635) KP.lookup_withSys (by decide) ?l ?c; (case l => k_is); (case c => kernel_rfl)))
