import PyProof.Rows.All
import Wide.All
import OpenK.AllK
import Wide.FinOn
import HandS.ForMost
import HandS.ForExc
import HandS.IsInst
import HandS.Flow
import HandS.Wide
import HandS.WideMore
import HandS.Defaults
import HandS.Style
import HandS.Evl
import PySem.Challenge.RW_roomstair_k02_plain_checks
set_option Elab.async false
set_option linter.all false
set_option maxRecDepth 100000
/-! HG: promises of defs that are called while no repr is under way, so that repr's text is known. -/
namespace HG
open PySem PySem.Spec PyProof.Rows L2

/-- as a def's promise, but for calls ahead of which nothing guards -/
structure FnG (P : Program) (w : World) (K : PySem.W.Frag) (mg : Str → Option Value) (base : Heap) (CX : CXT) (k : Nat) (f : Addr) (fd : FuncData) (ps : List Str) (sp : Sp) : Prop where
  len : ∀ vs H Q E, sp vs H Q E → vs.length = ps.length
  go : ∀ (A : Around) (ou : List Env) (s : Shared) (H : Hp) (ar : Args) (us : List Value) (vs : List V) (Q : VK) (E : XK),
    A.guards = some [] → Room k A → Env0 P w K mg base A ou s H → BindsTo s fd ar (ps.zip us) → Vals vs us → sp vs H Q E →
    codeAny (model P w) A (.call (.ref f) ar) (CR CX ou P w H s Q E) s
section
variable {P : Program} {w : World} {K : PySem.W.Frag} {mg : Str → Option Value} {base : Heap} {CX : CXT} {k : Nat} {f : Addr} {fd : FuncData} {ps : List Str} {sp : Sp}
theorem FnG.of (F : FnOk P w K mg base CX k f fd ps sp) : FnG P w K mg base CX k f fd ps sp :=
  ⟨F.len, fun A ou s H ar us vs Q E _ => F.run A ou s H ar us vs Q E⟩
theorem FnG.mono {j : Nat} (F : FnG P w K mg base CX j f fd ps sp) (h : j ≤ k) : FnG P w K mg base CX k f fd ps sp :=
  ⟨F.len, fun A ou s H ar us vs Q E g r => F.go A ou s H ar us vs Q E g (r.mono h)⟩
/-- a def by its body -/
theorem fn_g {x qual : Str} {st : Stmt} {N : List Str} (F : Fun K x qual st f fd) (S : FnScope N ps (defScope st)) (len : ∀ vs H Q E, sp vs H Q E → vs.length = ps.length)
    (hb : ∀ (cdv : Value) (A : Around) (ou : List Env) (s : Shared) (H : Hp) (vs : List V) (Q : VK) (E : XK), (A.deeper (envOfC qual (defScope st) s.heap.objs.size f cdv)).guards = some [] →
      Room k (A.deeper (envOfC qual (defScope st) s.heap.objs.size f cdv)) → sp vs H Q E →
      ∃ t, PSs (cxOf CX P w K mg base N qual (defScope st) f cdv A ou s H E) (defBody st) t ∧ t { nx := fun _ H' => Q .non H', rt := Q } (start N vs) H) :
    FnG P w K mg base CX (k + 1) f fd ps sp := by
  obtain ⟨oc, od, kV, doc, pm, an, cdv, ct, osl, rfl, lk, hcd⟩ := F.ex
  constructor
  · exact len
  intro A ou s H ar us vs Q E g room e0 binds rv q0
  have h1 := len vs H Q E q0
  have h2 : K.In s.heap := e0.mod.kin.keeps (fun b o z => (e0.bs b o z).1)
  have h3 : s.heap.NoLimit := e0.mod.nolimit.keeps (fun b o z => (e0.bs b o z).1)
  have h4 : ∀ y ∈ ps.zip us, (defScope st).names.lookup y.1 = some .local ∨ ((defScope st).names.lookup y.1 = some .cell ∧ ((cellsFrom (s.heap.objs.size + 1) (defScope st).names []).lookup y.1).isSome = true) := by
    intro y hy
    have hm := (List.of_mem_zip (show (y.1, y.2) ∈ ps.zip us from hy)).1
    cases S.par y.1 hm with
    | inl q => exact Or.inl q
    | inr q => exact Or.inr ⟨q, PySem.W.cellsFrom_some _ _ _ (Or.inl q)⟩
  apply codeAny_call_function room.depth (h2 _ _ lk) rfl S.co S.gen rfl (PySem.W.codeRec_of h2 hcd)
  apply binds
  apply wpAny_newFunctionEnv_cells S.kind h4
  intro env heq s1 ic
  cases heq
  refine And.intro (Heap.NoLimit.keeps h3 ic.toInCall.keep) (codeAny_func ?_)
  cases hb cdv A ou s H vs Q E g (Room.deeper room _) q0 with
  | intro t ht =>
    have J0 := inv_start (CX := CX) (E := E) S room.hd e0 h1 rv ic
    apply wpAny_mono (ht.1.run [] s1 (start N vs) H _ J0 ht.2)
    · intro fl s2 z
      cases fl with
      | ret u => exact let ⟨v, _, H2, J, r, q⟩ := z; ⟨v, H2, J.os, J.bare, J.base, J.hok, r, q⟩
      | next => exact let ⟨_, H2, J, q⟩ := z; ⟨V.non, H2, J.os, J.bare, J.base, J.hok, (rfl : Value.none = Value.none), q⟩
      | brk => exact let ⟨_, _, _, q⟩ := z; q.elim
      | cont => exact let ⟨_, _, _, q⟩ := z; q.elim
    · exact fun _ _ z => z
end
section
variable {X : Cx} {CX : CXT} {k : Nat} {f : Addr} {fd : FuncData} {ps : List Str} {sp : Sp} {dvs : List V} {ds : List Value} {E : XK} {x : Str} {p pos : Pos} {e : Expr} {es : List Expr} {t : TA}
theorem go_fn {pins : List (Addr × Obj)} {σ : L2.St} {H : Hp} {s : Shared} {Q : VK} {us : List Value} {vs : List V} (g : X.A.guards = some []) (F : FnG X.prog X.w X.K X.mg X.base CX k f fd ps sp) (hr : Room k X.A) (hb : Binds X.K fd ps ds) (hd : Vals dvs ds) (hx : Passes CX X E)
    (I : Inv X pins σ H s) (r : Vals vs us) (h : sp (vs ++ dvs) H Q E) : wpAny (model X.prog X.w) X.A (call (.ref f) us) (EP X pins σ Q) X.xe s := by
  have rr := Vals.append r hd
  have ln : (us ++ ds).length = ps.length := (Vals.length rr).symm.trans (F.len _ _ _ _ h)
  apply wpAny_call
  apply codeAny_mono (F.go X.A X.stack s H ⟨us, []⟩ (us ++ ds) (vs ++ dvs) Q E g hr I.env0 (hb s us I.kIn ln) rr h)
  intro r s2 z
  cases r with
  | error e => exact hx pins σ H s e s2 I z
  | ok fl =>
    cases fl with
    | ret u => exact Inv.after I z
    | next => exact z.elim
    | brk => exact z.elim
    | cont => exact z.elim
/-- f(e, ..) -/
theorem pe_callG (g : X.A.guards = some []) (F : FnG X.prog X.w X.K X.mg X.base CX k f fd ps sp) (hr : Room k X.A) (hg : Gl X x) (hm : X.mg x = some (.ref f)) (hk : PySem.W.keepIn X.K (.ref f) = true) (hb : Binds X.K fd ps ds) (hd : Vals dvs ds) (hx : Passes CX X E)
    (ha : PA X (e :: es) t) (n1 : (x == ("__debug__" : Str)) = false := by decide) (n2 : starEach (e :: es) X.env = (false, eval e X.env) :: starEach es X.env := by rfl) (n3 : (backTo pos (starEach es X.env)).any (·.1) = false := by rfl) :
    PE X (.Call (.Name x p) (e :: es) [] pos) (tCall sp dvs E t) := by
  constructor
  intro pins s σ H Q I h
  apply wpAny_Call_Name_kw (ld_glob I hg hm _ n1)
  exact PySem.W.callWith_K (h₀ := X.base) I.ok.mod.kin hk (thn (ha.run pos pins s σ H _ I h) (fun us s1 ⟨vs, H1, I1, r, q⟩ => ⟨I1.kIn, go_fn g F hr hb hd hx I1 r q⟩)) n2 n3
/-- repr of plain data -/
def rRepr (K : PySem.W.Frag) : List V → Hp → VK → Prop := fun xs H Q => ∃ x d, xs = [x] ∧ Dp K H x d ∧ d.showable = true ∧ d.hasDict = false ∧ d.depth ≤ 30 ∧ d.shown.length ≤ sizeLine ∧ Q (.str d.shown) H
theorem call_repr (g : X.A.guards = some []) (hu : X.A.units + 64 < cLine) : CallR X (.builtin "repr") (rRepr X.K) := by
  intro pins s σ H xs us Q I r h
  obtain ⟨x, d, rfl, hd, hs, hn, hp, hz, q⟩ := h
  obtain ⟨u, rfl, r1⟩ := vals1 r
  obtain ⟨as, rd⟩ := Dp.reads I d x u hd r1
  cases d with
  | none =>
    cases hd
    cases (show u = Value.none from r1)
    exact PySem.P.repr_of_none ⟨.str _, H, I.tok _, ⟨_, rfl⟩, q⟩
  | bool b =>
    cases hd
    cases (show u = Value.bool b from r1)
    exact PySem.P.repr_of_bool ⟨.str _, H, I.tok _, ⟨_, rfl⟩, q⟩
  | int i =>
    cases hd
    obtain ⟨t, rfl⟩ := (show ∃ t, u = Value.int i t from r1)
    exact PySem.P.repr_of_int (of_decide_eq_true hs) ⟨.str _, H, I.tok _, ⟨_, rfl⟩, q⟩
  | str z =>
    cases hd
    obtain ⟨t, rfl⟩ := (show ∃ t, u = Value.str z t from r1)
    exact PySem.P.repr_of_str ⟨.str _, H, I.tok _, ⟨_, rfl⟩, q⟩ hz
  | list ds =>
    cases hd
    cases (show u = Value.ref _ from r1)
    exact repr_of_reads' rd hs (PyData.noDict_hsm hn) g (by omega) (fun _ _ z => z) (fun h2 u2 tk kp => ⟨.str _, H, I.kept kp, ⟨_, rfl⟩, q⟩) hz
  | tuple ds =>
    cases hd
    cases (show u = Value.ref _ from r1)
    exact repr_of_reads' rd hs (PyData.noDict_hsm hn) g (by omega) (fun _ _ z => z) (fun h2 u2 tk kp => ⟨.str _, H, I.kept kp, ⟨_, rfl⟩, q⟩) hz
  | dict kvs => cases hd
end
/-- the script's place, as the law's def finds it: among the module's own objects, or locked -/
def ScrH (K : PySem.W.Frag) (a : Addr) (vs : List Value) (ns : List Int) : Hp := fun b =>
  if b = a ∧ K.lookup a = none then some (.frz { cls := .type "list", data := .seq vs.toArray } (.lst (ns.map V.int))) else none
theorem scrH_some {K : PySem.W.Frag} {a b : Addr} {vs : List Value} {ns : List Int} {u : HO} (h : ScrH K a vs ns b = some u) : b = a ∧ K.lookup a = none ∧ u = .frz { cls := .type "list", data := .seq vs.toArray } (.lst (ns.map V.int)) := by
  unfold ScrH at h
  by_cases q : b = a ∧ K.lookup a = none
  · rw [if_pos q] at h
    exact ⟨q.1, q.2, (Option.some.inj h).symm⟩
  · rw [if_neg q] at h
    cases h
theorem law_g {P : Program} {w : World} {K : PySem.W.Frag} {mg mb : Str → Option Value} {CX : CXT} {k : Nat} {fa a : Addr} {fd : FuncData} {x : Str} {sp : Sp} {s₁ : Shared} {vs : List Value} {ns : List Int}
    (KX : K.In s₁.heap) (n1 : s₁.heap.Ns mainGlobals mg) (n2 : s₁.heap.Ns builtinsNs mb) (n3 : ∀ x : Str, x ≠ "__name__" → mb x = bootBuiltins x) (n4 : s₁.heap.NoLimit) (n5 : s₁.gens = #[])
    (ha : s₁.heap.get? a = some { cls := .type "list", data := .seq vs.toArray }) (hi : IntsAre vs ns) (hl : ns.length ≤ sizeLine) (hr : Room k callerA)
    (F : ∀ base : Heap, K.In base → base.Ns mainGlobals mg → FnG P w K mg base CX k fa fd [x] sp) (bi : ∀ (s : Shared) (u : Value), BindsTo s fd ⟨[u], []⟩ [(x, u)])
    (hsp : ∀ H : Hp, Only H → SqL K H a (ns.map V.int) → sp [.ref a] H (fun v _ => v = .bl true) fun _ _ _ => False)
    (hCX : ∀ H e s', CX [] H s₁ (fun _ _ _ => False) e s' → False) :
    codeAny (model P w) callerA (.call (.ref fa) ⟨[.ref a], []⟩) (fun r s' => r = .ok (.ret (.bool true)) ∧ OldK s₁.heap s'.heap ∧ s'.os = s₁.os ∧ AllBare s'.gens) s₁ := by
  have rv := vals_ints hi
  have lv := hi.length
  let H : Hp := ScrH K a vs ns
  have hH : ∀ {b : Addr} {u : HO}, H b = some u → b = a ∧ K.lookup a = none ∧ u = .frz { cls := .type "list", data := .seq vs.toArray } (.lst (ns.map V.int)) := fun h => scrH_some h
  have hO : Only H := fun b => by
    cases q : H b with
    | none => exact .inl rfl
    | some u => exact .inr ⟨_, _, congrArg some (hH q).2.2⟩
  have hS : SqL K H a (ns.map V.int) := by
    cases hk : K.lookup a with
    | none => exact .inl (.inr ⟨_, if_pos ⟨rfl, hk⟩⟩)
    | some o =>
      have e := KX a o hk
      rw [ha] at e
      cases e
      exact .inr ⟨_, vs.toArray, _, hk, rfl, rfl, rfl, by rw [List.size_toArray, lv]; exact hl, by simpa using rv⟩
  have hok : HOk P w H s₁.heap := fun b u q => by
    obtain ⟨rfl, _, rfl⟩ := hH q
    exact ⟨ha, by rw [List.length_map]; exact hl, vs, _, rv, ha⟩
  have dictFree : ∀ {b : Addr} {o : Obj} {es : Array DictEntry} {ep : Nat}, s₁.heap.get? b = some o → o.data = .dict es ep → H b = none := fun {b o es ep} z d => by
    cases q : H b with
    | none => rfl
    | some u =>
      obtain ⟨rfl, _, _⟩ := hH q
      rw [ha] at z
      cases z
      exact nomatch d
  have ns' : ∀ {b : Addr} {m : Str → Option Value}, s₁.heap.Ns b m → (hidT s₁.heap H).Ns b m := fun ⟨o, es, ep, z, d, r⟩ => ⟨o, es, ep, hidT_get z (dictFree z d), d, r⟩
  have kin : K.In (hidT s₁.heap H) := fun b o z => hidT_get (KX b o z) (by
    cases q : H b with
    | none => rfl
    | some u =>
      obtain ⟨rfl, y, _⟩ := hH q
      rw [y] at z
      cases z)
  have lim : (hidT s₁.heap H).NoLimit := let ⟨mc, y1, y2⟩ := n4; ⟨mc, ns' y1, y2⟩
  have e0 : Env0 P w K mg (hidT s₁.heap H) callerA [] s₁ H :=
    { frames := rfl, mod := ⟨kin, ns' n1, ⟨mb, ns' n2, n3⟩, lim⟩, bs := fun b o z => of_hidT z, bsz := Nat.le_of_eq (hidT_size _ _), funs := trivial, frf := fun b hb => (List.not_mem_nil hb).elim, hok := hok, bare := .of_eq n5 }
  apply codeAny_mono ((F _ kin (ns' n1)).go callerA [] s₁ H ⟨[.ref a], []⟩ [.ref a] [.ref a] _ _ rfl hr e0 (bi s₁ (.ref a)) (.cons rfl .nil) (hsp H hO hS))
  intro r s2 z
  cases r with
  | error e => exact (hCX H e s2 z).elim
  | ok fl =>
    cases fl with
    | next => exact z.elim
    | brk => exact z.elim
    | cont => exact z.elim
    | ret u =>
      obtain ⟨v, H2, os, bare, un, hok2, r2, q⟩ := z
      cases (show v = .bl true from q)
      cases (show u = Value.bool true from r2)
      refine And.intro rfl (And.intro (OldK.of_keep fun b o y => ?_) (And.intro os bare))
      cases qb : H b with
      | none => exact un.keep b o y qb List.not_mem_nil List.not_mem_nil
      | some u =>
        obtain ⟨rfl, _, rfl⟩ := hH qb
        have y2 := (hok2 b _ (un.frzs b _ _ qb)).1
        rw [ha] at y
        cases y
        exact y2
theorem walk_g {l : PySem.W.OpenLaw} {n k : Nat} {q : Program} {loose : List Str} {XP : (Str → Option Value) → Heap → Prop} {YP : World → Heap → Prop} {d : DefRec} {K : Params → PySem.W.Frag} {CX : World → CXT} {sp : World → Sp} {x : Str}
    (hn : l.most = some n) (hn2 : n ≤ sizeLine) (hdf : d.params.defaults = []) (hr : Room k callerA)
    (hY : ∀ (w : World) (h : Heap), YP w h → (K w.params).In h)
    (F : ∀ (w : World) (mg : Str → Option Value) (fa : Addr) (h : Heap), (K w.params).In h → h.Ns mainGlobals mg → mg d.name = some (.ref fa) →
      ∃ fd : FuncData, (∀ (s : Shared) (u : Value), BindsTo s fd ⟨[u], []⟩ [(x, u)]) ∧
        ∀ base : Heap, (K w.params).In base → base.Ns mainGlobals mg → FnG l.prog w (K w.params) mg base (CX w) k fa fd [x] (sp w))
    (hsp : ∀ (w : World) (H : Hp) (a : Addr) (ns : List Int), ns.length ≤ n → Only H → SqL (K w.params) H a (ns.map V.int) → sp w [.ref a] H (fun v _ => v = .bl true) fun _ _ _ => False)
    (hCX : ∀ (w : World) (H : Hp) (s : Shared) (e : Value) (s' : Shared), CX w [] H s (fun _ _ _ => False) e s' → False) :
    PySem.W.WalkO q loose XP YP l.row.toRowW d [] (fun f vs => PySem.call f vs) := by
  apply Att.attach_call hn hdf
  intro w s₀ s₁ mg mb fa o pm cd doc a vs ns G Y _ _ _ hmg ho hi hl hg
  cases F w mg fa _ (hY w _ Y) G.T.g hmg with
  | intro fd z => exact law_g (hY w _ Y) G.T.g G.T.b G.T.builtins G.T.nolimit hg ho hi (Nat.le_trans hl hn2) hr z.2 z.1 (fun H y1 y2 => hsp w H a ns hl y1 y2) (fun H e s2 => hCX w H s₁ e s2)

/-! ### short words -/
section
variable {P : Program} {w : World} {K : PySem.W.Frag} {mg : Str → Option Value} {base : Heap}
/-- as fn_g, for a def that lets nothing out -/
theorem fn_g0 {k : Nat} {f : Addr} {fd : FuncData} {ps : List Str} {sp : Sp} {x qual : Str} {st : Stmt} {N : List Str} (F : Fun K x qual st f fd) (S : FnScope N ps (defScope st)) (len : ∀ vs H Q E, sp vs H Q E → vs.length = ps.length)
    (hb : ∀ (cdv : Value) (A : Around) (ou : List Env) (s : Shared) (H : Hp) (vs : List V) (Q : VK) (E : XK), (A.deeper (envOfC qual (defScope st) s.heap.objs.size f cdv)).guards = some [] →
      Room k (A.deeper (envOfC qual (defScope st) s.heap.objs.size f cdv)) → sp vs H Q E →
      ∃ t, PSs (cxOf CX0 P w K mg base N qual (defScope st) f cdv A ou s H E).nox (defBody st) t ∧ t { nx := fun _ H' => Q .non H', rt := Q } (start N vs) H) :
    FnG P w K mg base CX0 (k + 1) f fd ps sp := by
  apply fn_g F S len
  intro cdv A ou s H vs Q E g r q
  cases hb cdv A ou s H vs Q E g r q with
  | intro t z => exact ⟨t, PSs.nox z.1, z.2⟩
/-- a def as the top left it, with its promise -/
structure Df (P : Program) (w : World) (K : PySem.W.Frag) (mg : Str → Option Value) (base : Heap) (CX : CXT) (k : Nat) (x : Str) (ps : List Str) (sp : Sp) where
  f : Addr
  fd : FuncData
  ok : FnOk P w K mg base CX k f fd ps sp
  m : mg x = some (.ref f)
  kp : PySem.W.keepIn K (.ref f) = true
  b : Binds K fd ps []
/-- a def as the top left it -/
structure Tp (K : PySem.W.Frag) (mg : Str → Option Value) (x : Str) (st : Stmt) (ps : List Str) where
  f : Addr
  fd : FuncData
  F : Fun K x x st f fd
  m : mg x = some (.ref f)
  b : Binds K fd ps []
def Tp.df {x : Str} {st : Stmt} {ps : List Str} {CX : CXT} {k : Nat} {sp : Sp} (T : Tp K mg x st ps) (F : FnOk P w K mg base CX k T.f T.fd ps sp) : Df P w K mg base CX k x ps sp := ⟨T.f, T.fd, F, T.m, T.F.kp, T.b⟩
def tp_mk {h : Heap} {x : Str} {st : Stmt} {ps : List Str} {f : Addr} {oc kV doc pm cdv ct : Value} {od an : Option Addr} {osl : Array (Option Value)} (X : K.In h) (G : h.Ns mainGlobals mg) (a : PySem.W.nsIn K mainGlobals x = some (some (.ref f)))
    (l : K.lookup f = some ⟨oc, od, .func (PySem.W.fnOf x x (defArgs st) (defBody st) (defScope st) .none kV doc pm an cdv ct), osl⟩) (c : PySem.W.codeIn K cdv x = true) (k : PySem.W.keepIn K (.ref f) = true)
    (hb : ∀ (kV doc pm : Value) (an : Option Addr) (cdv ct : Value) (us : List Value), us.length = ps.length → bindArgs (PySem.W.fnOf x x (defArgs st) (defBody st) (defScope st) .none kV doc pm an cdv ct) ⟨us, []⟩ = pure (ps.zip us)) : Tp K mg x st ps :=
  ⟨f, _, fun_mk l c k, PySem.W.mg_of X G a, (fun_mk l c k).binds hb⟩
/-- how a call with keywords alone binds -/
theorem kbn {x : Str} {st : Stmt} {ps ks : List Str} (n : Nat) (T : Tp K mg x st ps) (g : {α : Type} → List α → List α → List α)
    (hrel : ∀ {vs : List V} {us : List Value} {zs : List V} {ws : List Value}, Vals vs us → Vals zs ws → Vals (g vs zs) (g us ws))
    (h : ∀ (kV doc pm : Value) (an : Option Addr) (cdv ct : Value) (us ws : List Value), us.length = n → ws.length = ks.length →
      bindArgs (PySem.W.fnOf x x (defArgs st) (defBody st) (defScope st) .none kV doc pm an cdv ct) ⟨us, ks.zip ws⟩ = pure (ps.zip (g us ws))) : KBn K T.fd ps n ks g g := by
  obtain ⟨oc, od, kV, doc, pm, an, cdv, ct, osl, e, _, _⟩ := T.F.ex
  exact ⟨fun s us ws _ l1 l2 => by rw [e]; exact .of_eq (h kV doc pm an cdv ct us ws l1 l2), fun r1 r2 => hrel r1 r2⟩
end
section
variable {X : Cx} {CX : CXT} {k j : Nat} {ps ks : List Str} {sp : Sp} {x : Str} {p pos : Pos} {e : Expr} {es : List Expr} {kws : List Keyword} {t tk : TA} {g : List Value → List Value → List Value} {gV : List V → List V → List V}
theorem p0 {E : XK} : Passes CX0 X E := fun _ _ _ _ _ _ _ h => h.elim
theorem pe_c (o : Df X.prog X.w X.K X.mg X.base CX0 k x ps sp) (hr : Room j X.A) (ha : PA X (e :: es) t) (hk : k ≤ j := by decide) (hg : Gl X x := by rfl)
    (n1 : (x == ("__debug__" : Str)) = false := by decide) (n2 : starEach (e :: es) X.env = (false, eval e X.env) :: starEach es X.env := by rfl) (n3 : (backTo pos (starEach es X.env)).any (·.1) = false := by rfl) :
    PE X (.Call (.Name x p) (e :: es) [] pos) (tCall sp [] E0 t) := pe_call o.ok (hr.mono hk) hg o.m o.kp o.b .nil p0 ha n1 n2 n3
theorem pe_c0 (o : Df X.prog X.w X.K X.mg X.base CX0 k x ps sp) (hr : Room j X.A) (hk : k ≤ j := by decide) (hg : Gl X x := by rfl)
    (n1 : (x == ("__debug__" : Str)) = false := by decide) : PE X (.Call (.Name x p) [] [] pos) (tCall sp [] E0 tNil) := pe_call0 o.ok (hr.mono hk) hg o.m o.kp o.b .nil p0 n1
/-- f(k = v, ..) -/
theorem pe_cK0 (o : Df X.prog X.w X.K X.mg X.base CX0 k x ps sp) (hb : KBn X.K o.fd ps 0 ks g gV) (hr : Room j X.A) (hw : PK X kws tk) (hk : k ≤ j := by decide) (hg : Gl X x := by rfl)
    (n0 : (backToKw pos (keywordEach kws X.env)).all (·.1.isSome) = true := by rfl) (n1 : (backToKw pos (keywordEach kws X.env)).filterMap (·.1) = ks := by rfl) (n2 : (x == ("__debug__" : Str)) = false := by decide)
    (n3 : ((backTo pos (starEach [] X.env)).any (·.1) || (backToKw pos (keywordEach kws X.env)).any (·.1.isNone)) = false := by rfl) :
    PE X (.Call (.Name x p) [] kws pos) (tCallN 0 ks.length sp gV E0 tNil tk) := by
  constructor
  intro pins s σ H Q I h
  apply wpAny_Call_Name_kw (ld_glob I hg o.m _ n2)
  apply PySem.W.callWith_KW0 (h₀ := X.base) I.ok.mod.kin o.kp n0 _ n3
  refine thn (hw.run pos pins s σ H _ I h) (fun ws s2 z => ?_)
  obtain ⟨zs, H2, J, rz, l1, l2, q⟩ := z
  refine And.intro J.kIn ?_
  rw [n1]
  exact run_fnN (us := []) (vs := []) o.ok (hr.mono hk) hb p0 J .nil rz rfl l2 q
/-- a def that may raise, where it does not -/
theorem pe_cL (o : Df X.prog X.w X.K X.mg X.base (L2.CX X.prog X.w) k x ps sp) (hr : Room j X.A) (ha : PA X (e :: es) t) (hk : k ≤ j := by decide) (hg : Gl X x := by rfl)
    (n1 : (x == ("__debug__" : Str)) = false := by decide) (n2 : starEach (e :: es) X.env = (false, eval e X.env) :: starEach es X.env := by rfl) (n3 : (backTo pos (starEach es X.env)).any (·.1) = false := by rfl) :
    PE X (.Call (.Name x p) (e :: es) [] pos) (tCall sp [] E0 t) := pe_call o.ok (hr.mono hk) hg o.m o.kp o.b .nil passL ha n1 n2 n3
theorem pe_cKL0 (o : Df X.prog X.w X.K X.mg X.base (L2.CX X.prog X.w) k x ps sp) (hb : KBn X.K o.fd ps 0 ks g gV) (hr : Room j X.A) (hw : PK X kws tk) (hk : k ≤ j := by decide) (hg : Gl X x := by rfl)
    (n0 : (backToKw pos (keywordEach kws X.env)).all (·.1.isSome) = true := by rfl) (n1 : (backToKw pos (keywordEach kws X.env)).filterMap (·.1) = ks := by rfl) (n2 : (x == ("__debug__" : Str)) = false := by decide)
    (n3 : ((backTo pos (starEach [] X.env)).any (·.1) || (backToKw pos (keywordEach kws X.env)).any (·.1.isNone)) = false := by rfl) :
    PE X (.Call (.Name x p) [] kws pos) (tCallN 0 ks.length sp gV E0 tNil tk) := by
  constructor
  intro pins s σ H Q I h
  apply wpAny_Call_Name_kw (ld_glob I hg o.m _ n2)
  apply PySem.W.callWith_KW0 (h₀ := X.base) I.ok.mod.kin o.kp n0 _ n3
  refine thn (hw.run pos pins s σ H _ I h) (fun ws s2 z => ?_)
  obtain ⟨zs, H2, J, rz, l1, l2, q⟩ := z
  refine And.intro J.kIn ?_
  rw [n1]
  exact run_fnN (us := []) (vs := []) o.ok (hr.mono hk) hb passL J .nil rz rfl l2 q
/-- a def that may raise, within a try -/
theorem pe_cS {W : WX} (o : Df X.prog X.w X.K X.mg X.base (L2.CX X.prog X.w) k x ps sp) (hr : Room j X.A) (tk : Takes X W) (ha : PA X (e :: es) t) (hk : k ≤ j := by decide) (hg : Gl X x := by rfl)
    (n1 : (x == ("__debug__" : Str)) = false := by decide) (n2 : starEach (e :: es) X.env = (false, eval e X.env) :: starEach es X.env := by rfl) (n3 : (backTo pos (starEach es X.env)).any (·.1) = false := by rfl) :
    PE X (.Call (.Name x p) (e :: es) [] pos) (tCallS sp (WE W) t) := pe_callS o.ok (hr.mono hk) hg o.m o.kp o.b (fun σ => passAt tk σ) ha n1 n2 n3
theorem pe_ty {T : String} (hg : Gl X x) (hm : X.mg x = none) (hv : bootBuiltins x = some (.type T)) (hn : x ≠ "__name__" := by decide) (hd : (x == ("__debug__" : Str)) = false := by decide) : PE X (.Name x pos) (tC (.ty T)) :=
  pe_bltn hg hm hv rfl hn hd
end
/-! ### heaps -/
/-- what stands at other places than g still stands -/
def Kp (g : Addr) (H H' : Hp) : Prop := ∀ p o, p ≠ g → H p = some o → H' p = some o
theorem Kp.refl {g : Addr} {H : Hp} : Kp g H H := fun _ _ _ h => h
theorem Kp.trans {g : Addr} {H H1 H2 : Hp} (a : Kp g H H1) (b : Kp g H1 H2) : Kp g H H2 := fun p o n h => b p o n (a p o n h)
theorem Kp.new {g p : Addr} {H : Hp} {o : HO} (h : H p = none) : Kp g H (upd H p o) := fun q u _ e => by rw [upd_ne (ne_of_none e h)]; exact e
theorem Kp.at {g : Addr} {H : Hp} {o : HO} : Kp g H (upd H g o) := fun q u n e => by rw [upd_ne n]; exact e
theorem Kp.seq {g a : Addr} {H H' : Hp} {K : PySem.W.Frag} {xs : List V} (k : Kp g H H') (n : a ≠ g) (h : SqL K H a xs) : SqL K H' a xs := by
  rcases h with (h | ⟨o, h⟩) | h
  · exact .inl (.inl (k _ _ n h))
  · exact .inl (.inr ⟨o, k _ _ n h⟩)
  · exact .inr h
end HG
/-! HD: a law's draws: the gauge (a list of the cells, how many were read, what is left), the facts about numbers. -/
namespace HD
open PySem PySem.Spec PyProof.Rows L2
/-- the gauge at g, its cells at c -/
structure Gau (H : Hp) (g c : Addr) (ns : List Int) (at_ rest : Int) : Prop where
  g : H g = some (.lst [.ref c, .int at_, .int rest])
  c : H c = some (.lst (ns.map V.int))
  a0 : 0 ≤ at_
  r0 : 0 ≤ rest
  len : ns.length ≤ 63
theorem Gau.ne {H : Hp} {g c : Addr} {ns : List Int} {a r : Int} (G : Gau H g c ns a r) : c ≠ g := fun e => by
  have h := G.g
  rw [← e, G.c] at h
  have h2 := HO.lst.inj (Option.some.inj h)
  cases ns with
  | nil => cases h2
  | cons x r => exact nomatch (List.cons.inj h2).1
theorem Gau.kp {H H' : Hp} {g c : Addr} {ns : List Int} {a r : Int} {q : Addr} (G : Gau H g c ns a r) (k : HG.Kp q H H') (n1 : g ≠ q) (n2 : c ≠ q) : Gau H' g c ns a r := ⟨k _ _ n1 G.g, k _ _ n2 G.c, G.a0, G.r0, G.len⟩
theorem Gau.new {H : Hp} {g c p : Addr} {o : HO} {ns : List Int} {a r : Int} (G : Gau H g c ns a r) (n : H p = none) : Gau (upd H p o) g c ns a r :=
  ⟨by rw [upd_ne (ne_of_none G.g n)]; exact G.g, by rw [upd_ne (ne_of_none G.c n)]; exact G.c, G.a0, G.r0, G.len⟩
theorem Gau.put {H : Hp} {g c : Addr} {ns : List Int} {a r a' r' : Int} {o : HO} (G : Gau H g c ns a r) (e : o = .lst [.ref c, .int a', .int r']) (h1 : 0 ≤ a') (h2 : 0 ≤ r') : Gau (upd H g o) g c ns a' r' :=
  ⟨by rw [upd_same, e], by rw [upd_ne G.ne]; exact G.c, h1, h2, G.len⟩
/-- behind a draw or more of them: the gauge stands, all else too; n: how many were drawn at most -/
structure Drew (g c : Addr) (ns : List Int) (n : Int) (H : Hp) (a : Int) (H' : Hp) : Prop where
  ex : ∃ a' r', Gau H' g c ns a' r' ∧ a' ≤ a + n
  kp : HG.Kp g H H'
/-- what a draw promises: 0 to many - 1 -/
def spDraw : Sp := fun vs H Q _ => ∃ g c ns a r many, vs = [.ref g, .int many] ∧ Gau H g c ns a r ∧ 0 < many ∧ many < 1000000 ∧ a < 1000000 ∧
  ∀ x a' r' H', 0 ≤ x → x < many → a' ≤ a + 1 → Gau H' g c ns a' r' → HG.Kp g H H' → Q (.int x) H'
/-- one of a list -/
def spOne (K : PySem.W.Frag) : Sp := fun vs H Q _ => ∃ g c ns a r l xs, vs = [.ref g, .ref l] ∧ Gau H g c ns a r ∧ a < 1000000 ∧ l ≠ g ∧ SqL K H l xs ∧ xs ≠ [] ∧ xs.length < 1000000 ∧
  ∀ x a' r' H', x ∈ xs → a' ≤ a + 1 → Gau H' g c ns a' r' → HG.Kp g H H' → Q x H'
theorem fdiv_nn {a b : Int} (h1 : 0 ≤ a) (h2 : 0 < b) : 0 ≤ a.fdiv b := by
  rw [Int.fdiv_eq_ediv_of_nonneg _ (Int.le_of_lt h2)]
  exact Int.ediv_nonneg h1 (Int.le_of_lt h2)
theorem fmod_nn {a b : Int} (h2 : 0 < b) : 0 ≤ a.fmod b := by
  rw [Int.fmod_eq_emod_of_nonneg _ (Int.le_of_lt h2)]
  exact Int.emod_nonneg _ (Int.ne_of_gt h2)
theorem fmod_lt {a b : Int} (h2 : 0 < b) : a.fmod b < b := by
  rw [Int.fmod_eq_emod_of_nonneg _ (Int.le_of_lt h2)]
  exact Int.emod_lt_of_pos _ h2
theorem shaped_ints (ns : List Int) : SeqAt.shaped (.list (ns.map PyData.int)) = true := by
  have h1 : PyData.canLayAll0 (ns.map PyData.int) = true := by
    induction ns with
    | nil => rfl
    | cons x r ih => rw [List.map_cons]; simp only [PyData.canLayAll0, PyData.canLay0, Bool.true_and]; exact ih
  have h2 : PyData.depthAll (ns.map PyData.int) = 0 := by
    induction ns with
    | nil => rfl
    | cons x r ih =>
      rw [List.map_cons]
      simp only [PyData.depthAll, PyData.depth]
      have h3 : PyData.canLayAll0 (r.map PyData.int) = true := by
        rw [List.map_cons] at h1
        simp only [PyData.canLayAll0, PyData.canLay0, Bool.true_and] at h1
        exact h1
      rw [ih h3]
      rfl
  unfold SeqAt.shaped
  simp only [PyData.canLay0, PyData.depth, h1, h2]
  rfl
theorem dp_ints {K : PySem.W.Frag} {H : Hp} : ∀ (ns : List Int), DpAll K H (ns.map V.int) (ns.map PyData.int)
  | [] => .nil
  | x :: r => .cons (.int x) (dp_ints r)
theorem eqv_nil (ns : List Int) : PyData.eqv (.list (ns.map PyData.int)) (.list []) = decide (ns = []) := by
  cases ns with
  | nil => simp only [List.map_nil, PyData.eqv, PyData.eqvAll]; rfl
  | cons x r => simp only [List.map_cons, PyData.eqv, PyData.eqvAll]; rfl
/-- a number mod a small number, and more: still small -/
theorem small_pow {x a : Int} {m k l : Int} (h1 : 0 ≤ x) (h2 : x < m) (h3 : 0 ≤ a) (h4 : a < 1000000) (hm : m ≤ 4000000000) (hk : 0 ≤ k) (hk2 : k ≤ 100000) (hl : 0 ≤ l) (hl2 : l ≤ 1000000) : (x + k * a + l).natAbs < 2 ^ 64 := by
  have h5 : k * a ≤ 100000 * 1000000 := Int.mul_le_mul hk2 (Int.le_of_lt h4) h3 (by decide)
  have h6 : 0 ≤ k * a := Int.mul_nonneg hk h3
  have h7 : (2 : Nat) ^ 64 = 18446744073709551616 := by decide
  omega
theorem small_pow2 {x a : Int} {m k l b : Int} (h1 : 0 ≤ x) (h2 : x < m) (h3 : 0 ≤ a) (h4 : a < 1000000) (hm : m ≤ 4000000000) (hk : 0 ≤ k) (hk2 : k ≤ 100000) (hl : 0 ≤ l) (hl2 : l ≤ 1000000) (hb : 0 ≤ b) (hb2 : b ≤ 1000000) :
    (x * (2 * a + b) + k * a * a + l).natAbs < 2 ^ 64 := by
  have h5 : k * a ≤ 100000 * 1000000 := Int.mul_le_mul hk2 (Int.le_of_lt h4) h3 (by decide)
  have h6 : 0 ≤ k * a := Int.mul_nonneg hk h3
  have h7 : (k * a) * a ≤ (100000 * 1000000) * 1000000 := Int.mul_le_mul h5 (Int.le_of_lt h4) h3 (by decide)
  have h8 : 0 ≤ (k * a) * a := Int.mul_nonneg h6 h3
  have h9 : x * (2 * a + b) ≤ 4000000000 * 3000000 := Int.mul_le_mul (by omega) (by omega) (by omega) (by decide)
  have h10 : 0 ≤ x * (2 * a + b) := Int.mul_nonneg h1 (by omega)
  have h11 : (2 : Nat) ^ 64 = 18446744073709551616 := by decide
  omega
theorem abs_ge {c : Int} {k : Int} (h : k ≤ (if c < 0 then -c else c)) (b : Int) (hb : 0 ≤ b) : 0 ≤ 2 * ((if c < 0 then -c else c) - k) + b := by omega
/-- the other way first: it may be wanted twice -/
theorem iteS {c A B : Prop} [Decidable c] (hb : B) (ha : c → B → A) : if c then A else B := by
  by_cases h : c
  · rw [if_pos h]
    exact ha h hb
  · rw [if_neg h]
    exact hb
theorem cell_at {ns : List Int} (hl : 0 < ns.length) (a : Int) : ∃ x, atI (ns.map V.int) (a % (ns.length : Int)) = some (.int x) := by
  have h3 := Int.emod_nonneg a (show (ns.length : Int) ≠ 0 by omega)
  have h4 := Int.emod_lt_of_pos a (show (0 : Int) < ns.length by omega)
  have il : (a % (ns.length : Int)).toNat < ns.length := by omega
  refine ⟨ns[(a % (ns.length : Int)).toNat], ?_⟩
  have e := atI_nat (xs := ns.map V.int) (j := (a % (ns.length : Int)).toNat) (v := .int (ns[(a % (ns.length : Int)).toNat])) (by rw [List.getElem?_map, List.getElem?_eq_getElem il]; rfl)
  rw [Int.toNat_of_nonneg h3] at e
  exact e
theorem cutV_ints (ns : List Int) (lo hi : Option Int) : ∃ ms : List Int, cutV (ns.map V.int) lo hi = ms.map V.int ∧ ms.length ≤ ns.length := by
  refine ⟨(ns.drop (HT.sIx (ns.map V.int).length 0 lo)).take (HT.sIx (ns.map V.int).length (ns.map V.int).length hi - HT.sIx (ns.map V.int).length 0 lo), ?_, ?_⟩
  · unfold cutV
    rw [List.map_take, List.map_drop]
  · rw [List.length_take, List.length_drop]
    omega
/-- the gauge of a script -/
def spGauge (K : PySem.W.Frag) : Sp := fun vs H Q _ => ∃ (s : Addr) (ns : List Int), vs = [.ref s] ∧ SqL K H s (ns.map V.int) ∧ ns.length ≤ 63 ∧
  ∀ (g c : Addr) (ms : List Int) (H' : Hp), H g = none → H c = none → Gau H' g c ms 0 0 → (∀ p o, H p = some o → H' p = some o) → Q (.ref g) H'
theorem get_map {α β : Type} {f : α → β} {xs : List α} {i : Nat} {y : β} (h : (xs.map f)[i]? = some y) : ∃ x, xs[i]? = some x ∧ y = f x := by
  rw [List.getElem?_map] at h
  cases e : xs[i]? with
  | none => rw [e] at h; cases h
  | some x => rw [e] at h; exact ⟨x, rfl, (Option.some.inj h).symm⟩
theorem take_snoc {α : Type} {xs : List α} {i : Nat} {x : α} (h : xs[i]? = some x) : xs.take (i + 1) = xs.take i ++ [x] := by
  rw [List.take_add_one, h]
  rfl
theorem stay {H : Hp} {p q : Addr} {o u : HO} (n : H q = none) (h : H p = some u) : upd H q o p = some u := by
  rw [upd_ne (ne_of_none h n)]
  exact h
theorem log_of {n : Nat} (h : n < 2 ^ 1900) : n.log2 < 1920 := by
  by_cases e : n = 0
  · subst e
    decide
  · exact Nat.lt_of_lt_of_le ((Nat.log2_lt e).mpr h) (by decide)
theorem small_pow200 {n : Nat} (h : n < 10 ^ 50) : n < 2 ^ 1900 := Nat.lt_of_lt_of_le h (by decide +kernel)
/-- some list, tuple or dict stands at p -/
def Box (H : Hp) (p : Addr) : Prop := (∃ xs, H p = some (.lst xs)) ∨ (∃ xs, H p = some (.tup xs)) ∨ ∃ k, H p = some (.dK k)
theorem Box.kp {H H' : Hp} {g p : Addr} (b : Box H p) (k : HG.Kp g H H') (n : p ≠ g) : Box H' p := by
  rcases b with ⟨x, h⟩ | ⟨x, h⟩ | ⟨x, h⟩
  · exact .inl ⟨x, k _ _ n h⟩
  · exact .inr (.inl ⟨x, k _ _ n h⟩)
  · exact .inr (.inr ⟨x, k _ _ n h⟩)
/-- a value that is an int, or plainly none -/
def AnyV (H : Hp) (g : Addr) (v : V) : Prop := (∃ i, v = .int i) ∨ v = .non ∨ (∃ b, v = .bl b) ∨ (∃ x, v = .str x) ∨ ∃ p, v = .ref p ∧ p ≠ g ∧ Box H p
theorem AnyV.kp {H H' : Hp} {g : Addr} {v : V} (a : AnyV H g v) (k : HG.Kp g H H') : AnyV H' g v := by
  rcases a with a | a | a | a | ⟨p, e, n, b⟩
  · exact .inl a
  · exact .inr (.inl a)
  · exact .inr (.inr (.inl a))
  · exact .inr (.inr (.inr (.inl a)))
  · exact .inr (.inr (.inr (.inr ⟨p, e, n, b.kp k n⟩)))
end HD
/-! HE: more of what a reading comes to where nothing is written. -/
namespace HE
open PySem PySem.Spec PyProof.Rows L2 Evl
section
variable {σ : L2.St} {H : Hp} {ta tb te : TE} {x y z : V} {K : PySem.W.Frag} {xs : List V} {d : PyData} {ds : List PyData}
/-- data that repr shows -/
structure Shows (d : PyData) : Prop where
  s : d.showable = true
  n : d.hasDict = false
  p : d.depth ≤ 30
  z : d.shown.length ≤ sizeLine
theorem Shows.bool (b : Bool) : Shows (.bool b) := ⟨rfl, rfl, by show 0 ≤ 30; decide, by cases b <;> decide +kernel⟩
theorem Shows.none : Shows .none := ⟨rfl, rfl, by show 0 ≤ 30; decide, by decide +kernel⟩
theorem ev_repr (ha : Ev ta σ H x) (hd : ∀ H1, Ex H H1 → Dp K H1 x d) (h : Shows d) : Ev (tCB (HG.rRepr K) (tCons ta tNil)) σ H (.str d.shown) := fun H1 e Q q =>
  ha H1 e _ fun H2 e2 => ⟨x, d, rfl, hd H2 (e.trans e2), h.s, h.n, h.p, h.z, q H2 e2⟩
theorem ev_reprL (ha : EvL ta σ H xs) (hd : ∀ H1, Ex H H1 → DpAll K H1 xs ds) (h : Shows (.list ds)) : Ev (tCB (HG.rRepr K) (tCons ta tNil)) σ H (.str (PyData.list ds).shown) := fun H1 e Q q =>
  ha H1 e _ fun p H2 _ e2 hp => ⟨.ref p, .list ds, rfl, .lst (SqL.of hp) (hd H2 (e.trans e2)), h.s, h.n, h.p, h.z, q H2 e2⟩
theorem ev_reprU (ha : EvU ta σ H xs) (hd : ∀ H1, Ex H H1 → DpAll K H1 xs ds) (h : Shows (.tuple ds)) : Ev (tCB (HG.rRepr K) (tCons ta tNil)) σ H (.str (PyData.tuple ds).shown) := fun H1 e Q q =>
  ha H1 e _ fun p H2 _ e2 hp => ⟨.ref p, .tuple ds, rfl, .tup (SqT.of hp) (hd H2 (e.trans e2)), h.s, h.n, h.p, h.z, q H2 e2⟩
/-- xs * k -/
theorem el_rep {k : Int} (ha : EvL ta σ H xs) (h1 : 0 ≤ k) (h2 : k < 1000) (h3 : xs.length ≤ 1000) : EvL (tOp rRep ta (tC (.int k))) σ H (List.replicate k.toNat xs).flatten := fun H1 e Q q =>
  ha H1 e _ fun p H2 n2 e2 hp => ⟨p, k, xs, rfl, rfl, hp, by omega, by omega, Nat.le_trans (Nat.mul_le_mul h3 (show k.toNat ≤ 1000 by omega)) (by decide +kernel), fun r hr => q r _ (fresh_back e2 hr) (e2.trans (Ex.new hr)) upd_same⟩
theorem rv_isN : RV (fun x y H Q => y = .non ∧ Q (.bl (decide (x = .non))) H) x .non H (.bl (decide (x = .non))) := fun H1 _ _ q => ⟨rfl, q H1 (Ex.refl H1)⟩
theorem rv_notN : RV (fun x y H Q => y = .non ∧ Q (.bl (!decide (x = .non))) H) x .non H (.bl (!decide (x = .non))) := fun H1 _ _ q => ⟨rfl, q H1 (Ex.refl H1)⟩
/-- f(k = v, ..) -/
theorem ev_callN {sp : Sp} {n m : Nat} {vs zs : List V} {gV : List V → List V → List V} {E : XK} {t tk : TA} (h1 : EvA t σ H vs) (h2 : EvA tk σ H zs) (l1 : vs.length = n) (l2 : zs.length = m) (hs : SpV sp (gV vs zs) H z) : Ev (tCallN n m sp gV E t tk) σ H z := fun H1 e Q q =>
  h1 H1 e _ fun H2 e2 => h2 H2 (e.trans e2) _ fun H3 e3 => ⟨l1, l2, hs H3 ((e.trans e2).trans e3) Q (fun H4 e4 => q H4 ((e2.trans e3).trans e4)) E⟩
/-- two texts alike -/
theorem et_ne {w : Str} (h1 : Ev ta σ H (.str w)) (h2 : Ev tb σ H (.str w)) : EvT (tTest (tOp rNe ta tb)) σ H false := by
  refine et_is (et_test (ev_op h1 h2 (rv_ne rfl))) ?_
  rw [decide_eq_true rfl]
  rfl
end
section
variable {X : Cx}
/-- the same with K by its name (within a comprehension) -/
theorem ix_listK (K : PySem.W.Frag) (h : X.K = K) : IxR X (rIxL K) := h ▸ ix_list
theorem ix_tupK (K : PySem.W.Frag) (h : X.K = K) : IxR X (rIxT K) := h ▸ ix_tup
theorem call_len_seqK (K : PySem.W.Frag) (h : X.K = K) : CallR X (.builtin "len") (rLenS K) := h ▸ call_len_seq
theorem op_eqDK (K : PySem.W.Frag) (h : X.K = K) (hu : X.A.units + 64 < cLine) : OpR X (compareOp .Eq) (rEqD K) := h ▸ op_eqD hu
theorem op_neDK (K : PySem.W.Frag) (h : X.K = K) (hu : X.A.units + 64 < cLine) : OpR X (compareOp .NotEq) (rNeD K) := h ▸ op_neD hu
theorem op_in_seqK (K : PySem.W.Frag) (h : X.K = K) : OpR X (compareOp .In) (rIn K false) := h ▸ op_in_seq
theorem op_notIn_seqK (K : PySem.W.Frag) (h : X.K = K) : OpR X (compareOp .NotIn) (rIn K true) := h ▸ op_notIn_seq
end
end HE
namespace K02
open PySem PySem.Spec PyProof.Rows L2
def topS (i : Nat) : Stmt := PySem.Challenge.pw_roomstair_k02_plain_checks.main.body.getD i (.Pass ⟨0, 0, 0, 0⟩)
abbrev s_is_integer : Stmt := topS 1
theorem sc_is_integer : FnScope ["value"] ["value"] (defScope s_is_integer) := ⟨rfl, rfl, rfl, by decide +kernel, rfl, by decide +kernel, by decide +kernel⟩
abbrev s_is_within : Stmt := topS 2
theorem sc_is_within : FnScope ["value", "least", "most"] ["value", "least", "most"] (defScope s_is_within) := ⟨rfl, rfl, rfl, by decide +kernel, rfl, by decide +kernel, by decide +kernel⟩
/-- what is an integer, what is none -/
def IsI (K : PySem.W.Frag) (H : Hp) (v : V) (r : Bool) : Prop := ∃ t b1 b2, TyX K H v t ∧ PySem.W.kitOne K t (.type "int") = some b1 ∧ PySem.W.kitOne K t (.type "bool") = some b2 ∧ r = (b1 && !b2) ∧ (r = true → ∃ i, v = .int i)
def optV : Option Int → V
  | none => .non
  | some i => .int i
def loB : Option Int → Int → Bool
  | none, _ => true
  | some l, i => decide (l ≤ i)
def hiB : Option Int → Int → Bool
  | none, _ => true
  | some h, i => decide (i ≤ h)
def within (v : V) (r : Bool) (lo hi : Option Int) : Bool := match r, v with
  | true, .int i => loB lo i && hiB hi i
  | _, _ => false
theorem within_t (i : Int) (lo hi : Option Int) : within (.int i) true lo hi = (loB lo i && hiB hi i) := rfl
section
variable {P : Program} {w : World} {K : PySem.W.Frag} {mg : Str → Option Value} {base : Heap}
def spInt (K : PySem.W.Frag) : Sp := fun vs H Q _ => ∃ v r, vs = [v] ∧ IsI K H v r ∧ Q (.bl r) H
theorem ok_is_integer (T : HG.Tp K mg "is_integer" s_is_integer ["value"]) (m_isinstance : mg "isinstance" = none) (m_int : mg "int" = none) (m_bool : mg "bool" = none) : FnOk P w K mg base CX0 1 T.f T.fd ["value"] (spInt K) := by
  refine T.F.ok sc_is_integer (fun vs H Q E h => ?_) (fun cdv A outer s H vs Q E hr h => ?_)
  · obtain ⟨v, r, rfl, _⟩ := h
    rfl
  · obtain ⟨v, r, rfl, ⟨t, b1, b2, ty, k1, k2, e, _⟩, q⟩ := h
    refine ⟨_, (pss_one (ps_ret (pe_and (pe_callB call_isi (by rfl) m_isinstance (by decide +kernel) (pa_cons (pv 0) (pa_cons (HG.pe_ty (T := "int") (by rfl) m_int (by decide +kernel)) pa_nil))) (pe_one (pe_not (pe_callB call_isi (by rfl) m_isinstance (by decide +kernel) (pa_cons (pv 0) (pa_cons (HG.pe_ty (T := "bool") (by rfl) m_bool (by decide +kernel)) pa_nil)))))))), ?_⟩
    refine ⟨v, rfl, v, _, t, _, b1, rfl, ClsV.ty "int", ty, k1, b1, rfl, ?_⟩
    subst e
    cases b1 with
    | true =>
      refine iteT ?_
      exact ⟨v, rfl, v, _, t, _, b2, rfl, ClsV.ty "bool", ty, k2, b2, rfl, q⟩
    | false => exact iteF q
def spWithin (K : PySem.W.Frag) : Sp := fun vs H Q _ => ∃ v r lo hi, vs = [v, optV lo, optV hi] ∧ IsI K H v r ∧ Q (.bl (within v r lo hi)) H
theorem ok_is_within (T : HG.Tp K mg "is_within" s_is_within ["value", "least", "most"]) (o_is_integer : HG.Df P w K mg base CX0 1 "is_integer" ["value"] (spInt K)) : FnOk P w K mg base CX0 2 T.f T.fd ["value", "least", "most"] (spWithin K) := by
  refine T.F.ok sc_is_within (fun vs H Q E h => ?_) (fun cdv A outer s H vs Q E hr h => ?_)
  · obtain ⟨v, r, lo, hi, rfl, _⟩ := h
    rfl
  · obtain ⟨v, r, lo, hi, rfl, hv, q⟩ := h
    refine ⟨_, (pss_cons (ps_if (pt_not (pt_val (HG.pe_c o_is_integer hr (pa_cons (pv 0) pa_nil))))
      (pss_one (ps_ret pe_bl))
      pss_nil)
    (pss_cons (ps_if (PW.pt (pw_and (pt_cmpR op_notN (pv 1) pe_non (nomark _)) (pw_and1 (pt_cmpR op_lt (pv 0) (pv 1) (nomark _)))))
      (pss_one (ps_ret pe_bl))
      pss_nil)
    (pss_one (ps_ret (pe_or (pe_cmpR op_isN (pv 2) pe_non (nomark _)) (pe_one (pe_cmpR op_le (pv 0) (pv 2) (nomark _)))))))), ?_⟩
    refine ⟨v, rfl, v, r, rfl, hv, r, rfl, ?_⟩
    cases r with
    | false => exact iteT q
    | true =>
      obtain ⟨t, b1, b2, ty, k1, k2, e, hi0⟩ := hv
      obtain ⟨i, rfl⟩ := hi0 rfl
      refine iteF ?_
      -- the upper bound
      have up : ∀ (σ2 : L2.St), σ2 = [some (.int i), some (optV lo), some (optV hi)] → loB lo i = true →
          ∃ v, σ2[2]? = some (some v) ∧ V.non = V.non ∧ ∃ c, V.bl (decide (v = .non)) = .bl c ∧ if c = true then Q (.bl true) H else ∃ v, σ2[0]? = some (some v) ∧ ∃ u, σ2[2]? = some (some u) ∧ ∃ a b, v = .int a ∧ u = .int b ∧ Q (.bl (decide (a ≤ b))) H := by
        rintro σ2 rfl h1
        cases hi with
        | none =>
          refine ⟨_, rfl, rfl, _, rfl, ?_⟩
          refine iteT ?_
          have e2 : within (.int i) true lo none = true := by rw [within_t, h1]; rfl
          rw [e2] at q
          exact q
        | some u =>
          refine ⟨_, rfl, rfl, _, rfl, ?_⟩
          refine iteF ?_
          have e2 : within (.int i) true lo (some u) = decide (i ≤ u) := by rw [within_t, h1]; rfl
          rw [e2] at q
          exact ⟨_, rfl, _, rfl, _, _, rfl, rfl, q⟩
      cases lo with
      | none =>
        refine ⟨_, rfl, rfl, _, rfl, ?_⟩
        refine iteF (iteF ?_)
        exact up _ rfl rfl
      | some l =>
        refine ⟨_, rfl, rfl, _, rfl, ?_⟩
        refine iteT ?_
        refine ⟨_, rfl, _, rfl, _, _, rfl, rfl, _, rfl, ?_⟩
        refine ite2 (fun h => ?_) (fun h => ?_)
        · have e2 : within (.int i) true (some l) hi = false := by
            have : ¬ l ≤ i := by have := of_decide_eq_true h; omega
            rw [within_t, show loB (some l) i = false from decide_eq_false this]
            rfl
          rw [e2] at q
          exact q
        · exact up _ rfl (decide_eq_true (by have : ¬ i < l := fun z => h (decide_eq_true z); omega))
end
end K02
namespace K02
open PySem PySem.Spec PyProof.Rows L2
theorem V.int_pos {r : Int} (h : decide ((0 : Int) < r) = true) : 0 < r := of_decide_eq_true h
abbrev s__law_notch : Stmt := topS 5
theorem sc__law_notch : FnScope ["gauge", "many", "rest", "at", "cell", "mixed"] ["gauge", "many"] (defScope s__law_notch) := ⟨rfl, rfl, rfl, by decide +kernel, rfl, by decide +kernel, by decide +kernel⟩
section
variable {P : Program} {w : World} {K : PySem.W.Frag} {mg : Str → Option Value} {base : Heap}
theorem ok__law_notch (T : HG.Tp K mg "_law_notch" s__law_notch ["gauge", "many"]) (m_int : mg "int" = none) (m_len : mg "len" = none) (m_abs : mg "abs" = none) : FnOk P w K mg base CX0 1 T.f T.fd ["gauge", "many"] HD.spDraw := by
  refine T.F.ok sc__law_notch (fun vs H Q E h => ?_) (fun cdv A outer s H vs Q E hr h => ?_)
  · obtain ⟨g, c, ns, a, r, many, rfl, _⟩ := h
    rfl
  · obtain ⟨g, c, ns, a, r, many, rfl, G, m0, m1, a1, q⟩ := h
    have rd0 : ∀ {H2 : Hp} {a2 r2 : Int}, HD.Gau H2 g c ns a2 r2 → atI [V.ref c, .int a2, .int r2] (0 : Int) = some (.ref c) := fun _ => rfl
    refine ⟨_, (pss_cons (ps_if (pt_cmpR (op_eqD hr.units) (pe_ix ix_list (pv 0) pe_int (fun _ _ => rfl)) (pe_lst pa_nil) (nomark _))
      (pss_one (ps_ret pe_int))
      pss_nil)
    (pss_cons (ps_if (pt_cmpR op_gt (pe_ix ix_list (pv 0) pe_int (fun _ _ => rfl)) pe_int (nomark _))
      (pss_cons (ps_set (i := 2) sc__law_notch.nd rfl (.inl rfl) (pe_callTy call_int1 (by rfl) m_int (by decide +kernel) (pa_cons (pe_ix ix_list (pv 0) pe_int (fun _ _ => rfl)) pa_nil)))
      (pss_cons (ps_asg (pe_op op_fdiv (pv 2) (pv 1)) (pg_sub (pv 0) pe_int set_list))
      (pss_one (ps_ret (pe_op op_mod (pe_callTy call_int1 (by rfl) m_int (by decide +kernel) (pa_cons (pv 2) pa_nil)) (pv 1))))))
      pss_nil)
    (pss_cons (ps_set (i := 3) sc__law_notch.nd rfl (.inl rfl) (pe_ix ix_list (pv 0) pe_int (fun _ _ => rfl)))
    (pss_cons (ps_asg (pe_op op_add (pv 3) pe_int) (pg_sub (pv 0) pe_int set_list))
    (pss_cons (ps_set (i := 4) sc__law_notch.nd rfl (.inl rfl) (pe_ix ix_list (pe_ix ix_list (pv 0) pe_int (fun _ _ => rfl)) (pe_op op_mod (pe_callTy call_int1 (by rfl) m_int (by decide +kernel) (pa_cons (pv 3) pa_nil)) (pe_callB call_len_seq (by rfl) m_len PySem.boot_len (pa_cons (pe_ix ix_list (pv 0) pe_int (fun _ _ => rfl)) pa_nil))) (fun _ _ => rfl)))
    (pss_cons (ps_if (PW.pt (pw_and (pt_cmpR op_lt (pv 3) (pe_callB call_len_seq (by rfl) m_len PySem.boot_len (pa_cons (pe_ix ix_list (pv 0) pe_int (fun _ _ => rfl)) pa_nil)) (nomark _)) (pw_and1 (pt_cmpR op_ge (pe_callB call_abs (by rfl) m_abs (by decide +kernel) (pa_cons (pv 4) pa_nil)) (pe_op op_pow pe_int pe_int) (nomark _)))))
      (pss_cons (ps_set (i := 2) sc__law_notch.nd rfl (.inl rfl) (pe_op op_add (pe_op op_mul pe_int (pe_op op_sub (pe_callB call_abs (by rfl) m_abs (by decide +kernel) (pa_cons (pv 4) pa_nil)) (pe_op op_pow pe_int pe_int))) (pe_callTy call_int1 (by rfl) m_int (by decide +kernel) (pa_cons (pe_cmpR op_lt (pv 4) pe_int (nomark _)) pa_nil))))
      (pss_cons (ps_asg (pe_op op_fdiv (pe_callTy call_int1 (by rfl) m_int (by decide +kernel) (pa_cons (pv 2) pa_nil)) (pv 1)) (pg_sub (pv 0) pe_int set_list))
      (pss_one (ps_ret (pe_op op_mod (pe_callTy call_int1 (by rfl) m_int (by decide +kernel) (pa_cons (pv 2) pa_nil)) (pv 1))))))
      pss_nil)
    (pss_cons (ps_set (i := 5) sc__law_notch.nd rfl (.inl rfl) (pe_op op_mod (pe_callTy call_int1 (by rfl) m_int (by decide +kernel) (pa_cons (pe_op op_pow (pe_op op_add (pe_op op_add (pe_op op_mod (pe_callTy call_int1 (by rfl) m_int (by decide +kernel) (pa_cons (pv 4) pa_nil)) pe_int) (pe_op op_mul pe_int (pv 3))) pe_int) pe_int) pa_nil)) pe_int))
    (pss_cons (ps_set (i := 5) sc__law_notch.nd rfl (.inl rfl) (pe_op op_mod (pe_callTy call_int1 (by rfl) m_int (by decide +kernel) (pa_cons (pe_op op_pow (pe_op op_add (pe_op op_add (pe_op op_mul (pv 5) (pe_op op_add (pe_op op_mul pe_int (pv 3)) pe_int)) (pe_op op_mul (pe_op op_mul pe_int (pv 3)) (pv 3))) pe_int) pe_int) pa_nil)) pe_int))
    (pss_one (ps_ret (pe_op op_mod (pe_callTy call_int1 (by rfl) m_int (by decide +kernel) (pa_cons (pe_op op_fdiv (pv 5) pe_int) pa_nil)) (pv 1)))))))))))), ?_⟩
    -- gauge[0] == []
    refine ⟨_, rfl, g, _, 0, .ref c, rfl, rfl, SqL.of G.g, rfl, Nat.zero_le _, fun e ne => ?_⟩
    have G1 := G.new (o := .lst []) ne
    have k1 : HG.Kp g H (upd H e (.lst [])) := HG.Kp.new ne
    refine ⟨.list (ns.map PyData.int), .list [], .lst (SqL.of G1.c) (HD.dp_ints ns), .lst (SqL.of upd_same) .nil, HD.shaped_ints ns, rfl, _, rfl, ?_⟩
    rw [HD.eqv_nil]
    refine ite2 (fun hn => ?_) (fun hn => ?_)
    · exact q 0 a r _ (Int.le_refl 0) m0 (by omega) G1 k1
    · have hne : ns ≠ [] := fun z => hn (decide_eq_true z)
      have hl : 0 < ns.length := List.length_pos_iff.mpr hne
      -- gauge[2] > 0
      refine ⟨_, rfl, g, _, 2, .int r, rfl, rfl, SqL.of G1.g, rfl, _, _, rfl, rfl, _, rfl, ite2 (fun h2 => ?_) (fun h2 => ?_)⟩
      · have h2' : 0 < r := V.int_pos h2
        refine ⟨_, rfl, g, _, 2, .int r, rfl, rfl, SqL.of G1.g, rfl, .inl ⟨_, rfl, ?_⟩⟩
        refine ⟨_, rfl, _, rfl, _, _, rfl, rfl, ⟨m0, by omega⟩, _, rfl, g, _, 2, 2, rfl, rfl, G1.g, rfl, ?_⟩
        refine ⟨_, rfl, .inl ⟨_, rfl, _, rfl, _, _, rfl, rfl, m0, ?_⟩⟩
        exact q (r % many) a (r / many) _ (Int.emod_nonneg _ (Int.ne_of_gt m0)) (Int.emod_lt_of_pos _ m0) (by omega) (G1.put rfl G.a0 (Int.ediv_nonneg (Int.le_of_lt h2') (Int.le_of_lt m0))) (k1.trans HG.Kp.at)
      · -- at = gauge[1]; gauge[1] = at + 1
        refine ⟨_, rfl, g, _, 1, .int a, rfl, rfl, SqL.of G1.g, rfl, ?_⟩
        refine ⟨_, rfl, _, _, rfl, rfl, _, rfl, g, _, 1, 1, rfl, rfl, G1.g, rfl, ?_⟩
        have G2 : HD.Gau (upd (upd H e (.lst [])) g (.lst [.ref c, .int (a + 1), .int r])) g c ns (a + 1) r := G1.put rfl (by have := G.a0; omega) G.r0
        have k2 : HG.Kp g H (upd (upd H e (.lst [])) g (.lst [.ref c, .int (a + 1), .int r])) := k1.trans HG.Kp.at
        -- cell = gauge[0][int(at) % len(gauge[0])]
        obtain ⟨cell, hcell⟩ := HD.cell_at hl a
        refine ⟨_, rfl, g, _, 0, .ref c, rfl, rfl, SqL.of G2.g, rfl, _, rfl, .inl ⟨_, rfl, _, rfl, g, _, 0, .ref c, rfl, rfl, SqL.of G2.g, rfl, c, _, rfl, .inl (SqL.of G2.c), _, _, rfl, rfl, ?_, ?_⟩⟩
        · rw [List.length_map]; omega
        refine ⟨c, _, _, .int cell, rfl, rfl, SqL.of G2.c, by rw [List.length_map]; exact hcell, ?_⟩
        have a0 := G.a0
        -- if at < len(gauge[0]) and abs(cell) >= 10 ** 18
        refine ⟨_, rfl, _, rfl, g, _, 0, .ref c, rfl, rfl, SqL.of G2.g, rfl, c, _, rfl, .inl (SqL.of G2.c), _, _, rfl, rfl, _, rfl, HD.iteS ?_ (fun _ tl => ?_)⟩
        · -- the mixed ones
          refine iteF ?_
          refine ⟨_, rfl, .inl ⟨_, rfl, _, _, rfl, rfl, (by show (0 : Int) < 2147483587; decide), _, rfl, _, _, rfl, rfl, .inl ⟨by decide, by decide⟩, _, _, rfl, rfl, _, _, rfl, rfl, _, _, rfl, rfl, ⟨by decide, by decide, ?_⟩, .inl ⟨_, rfl, _, _, rfl, rfl, (by show (0 : Int) < 2147483629; decide), ?_⟩⟩⟩
          · exact HD.small_pow (Int.emod_nonneg _ (by decide)) (Int.emod_lt_of_pos _ (by decide)) a0 a1 (by decide) (by decide) (by decide) (by decide) (by decide)
          generalize hm : (cell % (2147483587 : Int) + 71167 * a + 3323) ^ (Int.toNat 5) = big
          have b0 := Int.emod_nonneg big (show (2147483629 : Int) ≠ 0 by decide)
          have b1 := Int.emod_lt_of_pos big (show (0 : Int) < 2147483629 by decide)
          refine ⟨_, rfl, _, rfl, _, _, rfl, rfl, .inl ⟨by decide, by decide⟩, _, _, rfl, rfl, _, _, rfl, rfl, .inl ⟨by omega, by omega⟩, _, rfl, _, _, rfl, rfl, .inl ⟨by decide, by decide⟩, _, rfl, _, _, rfl, rfl, .inl ⟨by omega, by omega⟩, _, _, rfl, rfl, _, _, rfl, rfl, _, _, rfl, rfl, ⟨by decide, by decide, ?_⟩, .inl ⟨_, rfl, _, _, rfl, rfl, (by show (0 : Int) < 2147483497; decide), ?_⟩⟩
          · exact HD.small_pow2 b0 b1 a0 a1 (by decide) (by decide) (by decide) (by decide) (by decide) (by decide) (by decide)
          refine ⟨_, rfl, _, _, rfl, rfl, ⟨by decide, by decide⟩, .inl ⟨_, rfl, _, rfl, _, _, rfl, rfl, m0, ?_⟩⟩
          exact q _ (a + 1) r _ (Int.emod_nonneg _ (Int.ne_of_gt m0)) (Int.emod_lt_of_pos _ m0) (by omega) G2 k2
        · refine ⟨_, rfl, _, rfl, _, _, rfl, rfl, ⟨by decide, by decide, by decide⟩, _, _, rfl, rfl, _, rfl, ite2 (fun h5 => ?_) (fun _ => tl)⟩
          have h6 : ((10 : Int) ^ (Int.toNat 18)) ≤ (if cell < 0 then -cell else cell) := of_decide_eq_true h5
          refine ⟨_, rfl, _, rfl, _, _, rfl, rfl, ⟨by decide, by decide, by decide⟩, _, _, rfl, rfl, _, _, rfl, rfl, .inl ⟨by decide, by decide⟩, _, rfl, _, _, rfl, rfl, .inr ⟨_, rfl, _, _, rfl, rfl, ?_⟩⟩
          have h7 := HD.abs_ge h6 (if decide (cell < 0) = true then 1 else 0) (by split <;> decide)
          refine ⟨_, rfl, .inl ⟨_, rfl, _, rfl, _, _, rfl, rfl, ⟨m0, by omega⟩, _, rfl, g, _, 2, 2, rfl, rfl, G2.g, rfl, ?_⟩⟩
          refine ⟨_, rfl, .inl ⟨_, rfl, _, rfl, _, _, rfl, rfl, m0, ?_⟩⟩
          exact q _ (a + 1) _ _ (Int.emod_nonneg _ (Int.ne_of_gt m0)) (Int.emod_lt_of_pos _ m0) (by omega) (G2.put rfl (by omega) (Int.ediv_nonneg h7 (Int.le_of_lt m0))) (k2.trans HG.Kp.at)
end
end K02
namespace K02
open PySem PySem.Spec PyProof.Rows L2
abbrev s__law_gauge : Stmt := topS 4
theorem sc__law_gauge : FnScope ["script", "cell"] ["script"] (defScope s__law_gauge) := ⟨rfl, rfl, rfl, by decide +kernel, rfl, by decide +kernel, by decide +kernel⟩
abbrev s__law_one : Stmt := topS 6
theorem sc__law_one : FnScope ["gauge", "some"] ["gauge", "some"] (defScope s__law_one) := ⟨rfl, rfl, rfl, by decide +kernel, rfl, by decide +kernel, by decide +kernel⟩
abbrev s__law_is_number : Stmt := topS 7
theorem sc__law_is_number : FnScope ["value"] ["value"] (defScope s__law_is_number) := ⟨rfl, rfl, rfl, by decide +kernel, rfl, by decide +kernel, by decide +kernel⟩
abbrev s__law_odd : Stmt := topS 8
theorem sc__law_odd : FnScope ["gauge", "number"] ["gauge"] (defScope s__law_odd) := ⟨rfl, rfl, rfl, by decide +kernel, rfl, by decide +kernel, by decide +kernel⟩
section
variable {P : Program} {w : World} {K : PySem.W.Frag} {mg : Str → Option Value} {base : Heap}
theorem ok__law_gauge (T : HG.Tp K mg "_law_gauge" s__law_gauge ["script"]) (m_int : mg "int" = none) : FnOk P w K mg base CX0 1 T.f T.fd ["script"] (HD.spGauge K) := by
  refine T.F.ok sc__law_gauge (fun vs H Q E h => ?_) (fun cdv A outer s H vs Q E hr h => ?_)
  · obtain ⟨s, ns, rfl, _⟩ := h
    rfl
  · obtain ⟨a, ns, rfl, hS, hlen, q⟩ := h
    refine ⟨_, (pss_one (ps_ret (pe_lst (pa_cons (pe_lc (own := [("cell", 1)]) (by rfl) sc__law_gauge.nd (pi_list (pe_slice sl_list (pv 0) po_none (po_some pe_int))) (blkOk_by (N := ["script", "cell"]) (sc := defScope s__law_gauge) (by decide +kernel)) (fun _ _ _ _ _ => (pg_name (i := 1) sc__law_gauge.nd rfl (Or.inl rfl))) (fun _ _ _ _ _ => pts_nil) (fun _ _ _ _ _ => (pe_callTy call_int1 (by rfl) m_int (by decide +kernel) (pa_cons (pv 1) pa_nil)))) (pa_cons pe_int (pa_cons pe_int pa_nil)))))), ?_⟩
    refine ⟨.ref a, rfl, 60, rfl, a, _, rfl, hS, fun c0 nc0 => ?_⟩
    obtain ⟨ms, em, hm⟩ := HD.cutV_ints ns none (some 60)
    rw [em]
    refine ⟨c0, rfl, ⟨_, SqL.of upd_same⟩, fun D nD => ?_⟩
    have ncD : c0 ≠ D := fun e => by rw [← e, upd_same] at nD; cases nD
    have nD' : H D = none := by rw [upd_ne ncD.symm] at nD; exact nD
    refine lc_list (K := K) (a := c0) (xs := ms.map V.int) (fun i H2 => H2 c0 = some (.lst (ms.map V.int)) ∧ H2 D = some (.lst ((ms.take i).map V.int)) ∧ ∀ p o, H p = some o → H2 p = some o) ⟨?_, upd_same, fun p o e => ?_⟩ (fun i H2 _ p => SqL.of p.1) ?_ ?_
    · rw [upd_ne ncD, upd_same]
    · rw [upd_ne (ne_of_none e nD'), upd_ne (ne_of_none e nc0)]
      exact e
    · rintro i x H2 hx ⟨e1, e2, e3⟩
      obtain ⟨y, hy, rfl⟩ := HD.get_map hx
      refine ⟨rfl, ?_⟩
      refine ⟨_, rfl, .inl ⟨_, rfl, _, e2, ?_, ?_⟩⟩
      · rw [List.length_map, List.length_take]
        exact small1000 (by omega)
      have n1 : D ≠ c0 := ncD.symm
      refine ⟨by rw [upd_ne ncD]; exact e1, ?_, fun p o e => ?_⟩
      · rw [upd_same, HD.take_snoc hy, List.map_append]
        rfl
      · rw [upd_ne (ne_of_none e nD')]
        exact e3 p o e
    · rintro H2 ⟨e1, e2, e3⟩
      refine ⟨by show 3 ≤ sizeLine; decide, fun g ng => ?_⟩
      have ngH : H g = none := by
        cases e : H g with
        | none => rfl
        | some o => rw [e3 g o e] at ng; cases ng
      refine q g D ms _ ngH nD' ⟨upd_same, ?_, Int.le_refl 0, Int.le_refl 0, by omega⟩ fun p o e => ?_
      · rw [upd_ne (ne_of_none e2 ng), e2, List.length_map, List.take_of_length_le (Nat.le_refl _)]
      · rw [upd_ne (ne_of_none (e3 p o e) ng)]
        exact e3 p o e
theorem ok__law_one (T : HG.Tp K mg "_law_one" s__law_one ["gauge", "some"]) (o__law_notch : HG.Df P w K mg base CX0 1 "_law_notch" ["gauge", "many"] HD.spDraw) (m_len : mg "len" = none) : FnOk P w K mg base CX0 2 T.f T.fd ["gauge", "some"] (HD.spOne K) := by
  refine T.F.ok sc__law_one (fun vs H Q E h => ?_) (fun cdv A outer s H vs Q E hr h => ?_)
  · obtain ⟨g, c, ns, a, r, l, xs, rfl, _⟩ := h
    rfl
  · obtain ⟨g, c, ns, a, r, l, xs, rfl, G, a1, lg, hL, hx, hl, q⟩ := h
    have h0 : 0 < xs.length := List.length_pos_iff.mpr hx
    refine ⟨_, (pss_one (ps_ret (pe_ix ix_list (pv 1) (HG.pe_c o__law_notch hr (pa_cons (pv 0) (pa_cons (pe_callB call_len_seq (by rfl) m_len PySem.boot_len (pa_cons (pv 1) pa_nil)) pa_nil))) (fun _ _ => rfl)))), ?_⟩
    refine ⟨_, rfl, _, rfl, _, rfl, l, xs, rfl, .inl hL, g, c, ns, a, r, _, rfl, G, by omega, by omega, a1, fun x a' r' H' x0 x1 ha G' kp => ?_⟩
    have hx2 : x.toNat < xs.length := by omega
    refine ⟨l, xs, x, xs[x.toNat], rfl, rfl, kp.seq lg hL, ?_, ?_⟩
    · have e := atI_nat (List.getElem?_eq_getElem hx2)
      rw [Int.toNat_of_nonneg x0] at e
      exact e
    · exact q _ a' r' H' (List.getElem_mem hx2) ha G' kp
theorem ok__law_is_number (T : HG.Tp K mg "_law_is_number" s__law_is_number ["value"]) (m_isinstance : mg "isinstance" = none) (m_int : mg "int" = none) (m_bool : mg "bool" = none) : FnOk P w K mg base CX0 1 T.f T.fd ["value"] (spInt K) := by
  refine T.F.ok sc__law_is_number (fun vs H Q E h => ?_) (fun cdv A outer s H vs Q E hr h => ?_)
  · obtain ⟨v, r, rfl, _⟩ := h
    rfl
  · obtain ⟨v, r, rfl, ⟨t, b1, b2, ty, k1, k2, e, _⟩, q⟩ := h
    refine ⟨_, (pss_one (ps_ret (pe_and (pe_callB call_isi (by rfl) m_isinstance (by decide +kernel) (pa_cons (pv 0) (pa_cons (HG.pe_ty (T := "int") (by rfl) m_int (by decide +kernel)) pa_nil))) (pe_one (pe_not (pe_callB call_isi (by rfl) m_isinstance (by decide +kernel) (pa_cons (pv 0) (pa_cons (HG.pe_ty (T := "bool") (by rfl) m_bool (by decide +kernel)) pa_nil)))))))), ?_⟩
    refine ⟨v, rfl, v, _, t, _, b1, rfl, ClsV.ty "int", ty, k1, b1, rfl, ?_⟩
    subst e
    cases b1 with
    | true =>
      refine iteT ?_
      exact ⟨v, rfl, v, _, t, _, b2, rfl, ClsV.ty "bool", ty, k2, b2, rfl, q⟩
    | false => exact iteF q
end
end K02
namespace K02
open PySem PySem.Spec PyProof.Rows L2
def isIntV : V → Bool
  | .int _ => true
  | _ => false
theorem isI_of {K : PySem.W.Frag} {H : Hp} {g : Addr} {v : V} (a : HD.AnyV H g v) : IsI K H v (isIntV v) := by
  have nt : isIntV V.non = true → ∃ i, V.non = .int i := fun h => nomatch h
  rcases a with ⟨i, rfl⟩ | rfl | ⟨b, rfl⟩ | ⟨x, rfl⟩ | ⟨p, rfl, n, ⟨x, h⟩ | ⟨x, h⟩ | ⟨x, h⟩⟩
  · exact ⟨_, true, false, .base (.int i), kit_ty (by decide +kernel), kit_ty (by decide +kernel), rfl, fun _ => ⟨i, rfl⟩⟩
  · exact ⟨_, false, false, .base .non, kit_ty (by decide +kernel), kit_ty (by decide +kernel), rfl, fun h => nomatch h⟩
  · exact ⟨_, true, true, .base (.bl b), kit_ty (by decide +kernel), kit_ty (by decide +kernel), rfl, fun h => nomatch h⟩
  · exact ⟨_, false, false, .base (.str x), kit_ty (by decide +kernel), kit_ty (by decide +kernel), rfl, fun h => nomatch h⟩
  · exact ⟨_, false, false, .base (.lst h), kit_ty (by decide +kernel), kit_ty (by decide +kernel), rfl, fun h => nomatch h⟩
  · exact ⟨_, false, false, .base (.tup h), kit_ty (by decide +kernel), kit_ty (by decide +kernel), rfl, fun h => nomatch h⟩
  · exact ⟨_, false, false, .base (.dK h), kit_ty (by decide +kernel), kit_ty (by decide +kernel), rfl, fun h => nomatch h⟩
def spOdd : Sp := fun vs H Q _ => ∃ g c ns a r, vs = [.ref g] ∧ HD.Gau H g c ns a r ∧ a < 900000 ∧
  ∀ v a' r' H', HD.AnyV H' g v → a' ≤ a + 3 → HD.Gau H' g c ns a' r' → HG.Kp g H H' → Q v H'
section
variable {P : Program} {w : World} {K : PySem.W.Frag} {mg : Str → Option Value} {base : Heap}
theorem ok__law_odd (T : HG.Tp K mg "_law_odd" s__law_odd ["gauge"]) (o__law_notch : HG.Df P w K mg base CX0 1 "_law_notch" ["gauge", "many"] HD.spDraw) (o__law_one : HG.Df P w K mg base CX0 2 "_law_one" ["gauge", "some"] (HD.spOne K)) (m_str : mg "str" = none) : FnOk P w K mg base CX0 3 T.f T.fd ["gauge"] spOdd := by
  refine T.F.ok sc__law_odd (fun vs H Q E h => ?_) (fun cdv A outer s H vs Q E hr h => ?_)
  · obtain ⟨g, c, ns, a, r, rfl, _⟩ := h
    rfl
  · obtain ⟨g, c, ns, a, r, rfl, G, a1, q⟩ := h
    refine ⟨_, (pss_cons (ps_set (i := 1) sc__law_odd.nd rfl (.inl rfl) (HG.pe_c o__law_one hr (pa_cons (pv 0) (pa_cons (pe_lst (pa_cons pe_int (pa_cons pe_int (pa_cons pe_int (pa_cons pe_int (pa_cons pe_int (pa_cons (pe_un un_neg pe_int) (pa_cons (pe_op op_pow pe_int pe_int) (pa_cons (pe_un un_neg (pe_op op_pow pe_int pe_int)) (pa_cons (HG.pe_c o__law_notch hr (pa_cons (pv 0) (pa_cons pe_int pa_nil))) pa_nil)))))))))) pa_nil))))
    (pss_one (ps_ret (HG.pe_c o__law_one hr (pa_cons (pv 0) (pa_cons (pe_lst (pa_cons (pv 1) (pa_cons (pv 1) (pa_cons pe_non (pa_cons pe_bl (pa_cons pe_bl (pa_cons (pe_callTy call_str_int (by rfl) m_str (by decide +kernel) (pa_cons (pv 1) pa_nil)) (pa_cons (pe_lst (pa_cons (pv 1) pa_nil)) (pa_cons (pe_tup (pa_cons (pv 1) pa_nil)) (pa_cons pe_dnewK (pa_cons (pe_disp (pps_cons (pv 1) pe_int pps_nil) (by rfl) (by rfl) (fun z => by cases z) (by decide)) (pa_cons pe_str (pa_cons pe_str (pa_cons (pe_lst pa_nil) (pa_cons (pe_tup pa_nil) pa_nil))))))))))))))) pa_nil)))))), ?_⟩
    refine ⟨_, rfl, _, rfl, _, _, rfl, rfl, ⟨by decide, by decide, by decide⟩, _, _, rfl, rfl, ⟨by decide, by decide, by decide⟩, _, rfl, ?_⟩
    refine ⟨_, rfl, g, c, ns, a, r, 9000, rfl, G, by decide, by decide, by omega, fun x a2 r2 H2 x0 x1 ha2 G2 k2 => ?_⟩
    refine ⟨by show 9 ≤ sizeLine; decide, fun l nl => ?_⟩
    have lg : l ≠ g := (ne_of_none G2.g nl).symm
    refine ⟨g, c, ns, a2, r2, l, _, rfl, G2.new nl, by omega, lg, SqL.of upd_same, List.cons_ne_nil _ _, by show 9 < 1000000; decide, fun y a3 r3 H3 hy ha3 G3 k3 => ?_⟩
    have hi : ∃ i : Int, y = .int i ∧ i.natAbs.log2 < 1920 := by
      simp only [List.mem_cons, List.not_mem_nil, or_false] at hy
      rcases hy with rfl | rfl | rfl | rfl | rfl | rfl | rfl | rfl | rfl
      · exact ⟨_, rfl, by decide⟩
      · exact ⟨_, rfl, by decide⟩
      · exact ⟨_, rfl, by decide⟩
      · exact ⟨_, rfl, by decide⟩
      · exact ⟨_, rfl, by decide⟩
      · exact ⟨_, rfl, by decide⟩
      · exact ⟨_, rfl, HD.log_of (by decide +kernel)⟩
      · exact ⟨_, rfl, HD.log_of (by decide +kernel)⟩
      · exact ⟨x, rfl, HD.log_of (HD.small_pow200 (Nat.lt_of_lt_of_le (show x.natAbs < 9000 by omega) (by decide +kernel)))⟩
    obtain ⟨i, rfl, hz⟩ := hi
    refine ⟨_, rfl, _, rfl, _, rfl, _, rfl, i, rfl, hz, _, rfl, by show 1 ≤ sizeLine; decide, fun p1 n1 => ?_⟩
    refine ⟨_, rfl, by show 1 ≤ sizeLine; decide, fun p2 n2 => ?_⟩
    refine fun p3 n3 p4 n4 => ?_
    refine ⟨_, rfl, upd_same, [(Sum.inl i, .int 1)], rfl, by show 1 ≤ 15; decide, ?_⟩
    rw [upd_upd]
    refine ⟨by decide, fun p5 n5 => ?_⟩
    refine ⟨by decide, fun p6 n6 => ?_⟩
    refine ⟨by show 14 ≤ sizeLine; decide, fun l2 nl2 => ?_⟩
    -- what stands behind all these
    have G4 := ((((((G3.new n1).new n2).new n3).new n4).new n5).new n6).new nl2 (o := .lst [.int i, .int i, .non, .bl true, .bl false, .str (toString i), .ref p1, .ref p2, .ref p3, .ref p4, .str "", .str "+", .ref p5, .ref p6])
    have k4 : HG.Kp g H _ := (((((((k2.trans (HG.Kp.new nl)).trans k3).trans (HG.Kp.new n1)).trans (HG.Kp.new n2)).trans (HG.Kp.new n3)).trans (HG.Kp.new n4)).trans (HG.Kp.new n5)).trans ((HG.Kp.new n6).trans (HG.Kp.new nl2 (o := .lst [.int i, .int i, .non, .bl true, .bl false, .str (toString i), .ref p1, .ref p2, .ref p3, .ref p4, .str "", .str "+", .ref p5, .ref p6])))
    have lg2 : l2 ≠ g := (ne_of_none ((((((G3.new n1).new n2).new n3).new n4).new n5).new n6).g nl2).symm
    refine ⟨g, c, ns, a3, r3, l2, _, rfl, G4, by omega, lg2, SqL.of upd_same, List.cons_ne_nil _ _, by show 14 < 1000000; decide, fun y a5 r5 H5 hy ha5 G5 k5 => ?_⟩
    refine q y a5 r5 H5 ?_ (by omega) G5 (k4.trans k5)
    simp only [List.mem_cons, List.not_mem_nil, or_false] at hy
    have ng : ∀ {p : Addr} {H6 : Hp}, HD.Gau H6 g c ns a3 r3 → H6 p = none → p ≠ g := fun G6 n => (ne_of_none G6.g n).symm
    have e1 := ng G3 n1
    have e2 := ng (G3.new n1) n2
    have e3 := ng ((G3.new n1).new n2) n3
    have e4 := ng (((G3.new n1).new n2).new n3) n4
    have e5 := ng ((((G3.new n1).new n2).new n3).new n4) n5
    have e6 := ng (((((G3.new n1).new n2).new n3).new n4).new n5) n6
    rcases hy with rfl | rfl | rfl | rfl | rfl | rfl | rfl | rfl | rfl | rfl | rfl | rfl | rfl | rfl
    · exact .inl ⟨_, rfl⟩
    · exact .inl ⟨_, rfl⟩
    · exact .inr (.inl rfl)
    · exact .inr (.inr (.inl ⟨_, rfl⟩))
    · exact .inr (.inr (.inl ⟨_, rfl⟩))
    · exact .inr (.inr (.inr (.inl ⟨_, rfl⟩)))
    · exact .inr (.inr (.inr (.inr ⟨p1, rfl, e1, HD.Box.kp (.inl ⟨_, (by repeat (first | exact upd_same | refine HD.stay (by assumption) ?_))⟩) k5 e1⟩)))
    · exact .inr (.inr (.inr (.inr ⟨p2, rfl, e2, HD.Box.kp (.inr (.inl ⟨_, (by repeat (first | exact upd_same | refine HD.stay (by assumption) ?_))⟩)) k5 e2⟩)))
    · exact .inr (.inr (.inr (.inr ⟨p3, rfl, e3, HD.Box.kp (.inr (.inr ⟨_, (by repeat (first | exact upd_same | refine HD.stay (by assumption) ?_))⟩)) k5 e3⟩)))
    · exact .inr (.inr (.inr (.inr ⟨p4, rfl, e4, HD.Box.kp (.inr (.inr ⟨_, (by repeat (first | exact upd_same | refine HD.stay (by assumption) ?_))⟩)) k5 e4⟩)))
    · exact .inr (.inr (.inr (.inl ⟨_, rfl⟩)))
    · exact .inr (.inr (.inr (.inl ⟨_, rfl⟩)))
    · exact .inr (.inr (.inr (.inr ⟨p5, rfl, e5, HD.Box.kp (.inl ⟨_, (by repeat (first | exact upd_same | refine HD.stay (by assumption) ?_))⟩) k5 e5⟩)))
    · exact .inr (.inr (.inr (.inr ⟨p6, rfl, e6, HD.Box.kp (.inr (.inl ⟨_, (by repeat (first | exact upd_same | refine HD.stay (by assumption) ?_))⟩)) k5 e6⟩)))
end
end K02
namespace K02
open PySem PySem.Spec PyProof.Rows L2
def g3 {α : Type} (us ws : List α) : List α := match ws with
  | [x, y, z] => [z, y, x]
  | _ => []
theorem g3_rel {vs zs : List V} {us ws : List Value} (_ : Vals vs us) (r : Vals zs ws) : Vals (g3 vs zs) (g3 us ws) := by
  cases r with
  | nil => exact .nil
  | cons a r => cases r with
    | nil => exact .nil
    | cons b r => cases r with
      | nil => exact .nil
      | cons c r => cases r with
        | nil => exact .cons c (.cons b (.cons a .nil))
        | cons d r => exact .nil
def g1 {α : Type} (us ws : List α) : List α := ws
/-- what stood still stands -/
def Grow (H H' : Hp) : Prop := ∀ p o, H p = some o → H' p = some o
def spLaw (K : PySem.W.Frag) : Sp := fun vs H Q _ => ∃ (a : Addr) (ns : List Int), vs = [.ref a] ∧ SqL K H a (ns.map V.int) ∧ ns.length ≤ 63 ∧ ∀ H', Q (.bl true) H'
abbrev s_law : Stmt := topS 9
theorem sc_law : FnScope ["script", "gauge", "turn", "number", "value", "low", "high", "least", "most", "due"] ["script"] (defScope s_law) := ⟨rfl, rfl, rfl, by decide +kernel, rfl, by decide +kernel, by decide +kernel⟩
section
variable {P : Program} {w : World} {K : PySem.W.Frag} {mg : Str → Option Value} {base : Heap}
theorem ok_law (T : HG.Tp K mg "law" s_law ["script"]) (o_is_integer : HG.Df P w K mg base CX0 1 "is_integer" ["value"] (spInt K)) (kbi : KBn K o_is_integer.fd ["value"] 0 ["value"] g1 g1)
    (o_is_within : HG.Df P w K mg base CX0 2 "is_within" ["value", "least", "most"] (spWithin K)) (kbw : KBn K o_is_within.fd ["value", "least", "most"] 0 ["most", "least", "value"] g3 g3)
    (o__law_gauge : HG.Df P w K mg base CX0 1 "_law_gauge" ["script"] (HD.spGauge K)) (o__law_notch : HG.Df P w K mg base CX0 1 "_law_notch" ["gauge", "many"] HD.spDraw) (o__law_is_number : HG.Df P w K mg base CX0 1 "_law_is_number" ["value"] (spInt K))
    (o__law_odd : HG.Df P w K mg base CX0 3 "_law_odd" ["gauge"] spOdd) (m_range : mg "range" = none) (m_repr : mg "repr" = none) : HG.FnG P w K mg base CX0 4 T.f T.fd ["script"] (spLaw K) := by
  refine HG.fn_g0 T.F sc_law (fun vs H Q E h => ?_) (fun cdv A outer s H vs Q E hg hr h => ?_)
  · obtain ⟨a, ns, rfl, _⟩ := h
    rfl
  · obtain ⟨a, ns, rfl, hS, hlen, q⟩ := h
    refine ⟨_, (pss_cons (ps_set (i := 1) sc_law.nd rfl (.inl rfl) (HG.pe_c o__law_gauge hr (pa_cons (pv 0) pa_nil)))
    (pss_cons (ps_for PassesOwn.never rfl (pi_range1 rfl m_range (pa_cons pe_int pa_nil)) (pg_name (i := 2) sc_law.nd rfl (Or.inl rfl))
      (pss_cons (ps_par3 (i := 4) (j := 5) (l := 6) (by rfl) sc_law.nd rfl rfl rfl (by decide) (by decide) (by decide) rfl rfl rfl (pa_cons (HG.pe_c o__law_odd hr (pa_cons (pv 1) pa_nil)) (pa_cons (pe_op op_sub (HG.pe_c o__law_notch hr (pa_cons (pv 1) (pa_cons pe_int pa_nil))) pe_int) (pa_cons (pe_op op_sub (HG.pe_c o__law_notch hr (pa_cons (pv 1) (pa_cons pe_int pa_nil))) pe_int) pa_nil))) (by rfl))
      (pss_one (ps_for PassesOwn.never rfl (pi_tup (pe_tup (pa_cons (pv 4) (pa_cons (pv 5) (pa_cons (pv 6) (pa_cons (pe_op op_sub (pv 5) pe_int) (pa_cons (pe_op op_add (pv 6) pe_int) pa_nil))))))) (pg_name (i := 3) sc_law.nd rfl (Or.inl rfl))
        (pss_cons (ps_for PassesOwn.never rfl (pi_tup (pe_tup (pa_cons (pe_tup (pa_cons (pv 5) (pa_cons (pv 6) pa_nil))) (pa_cons (pe_tup (pa_cons pe_non (pa_cons (pv 6) pa_nil))) (pa_cons (pe_tup (pa_cons (pv 5) (pa_cons pe_non pa_nil))) (pa_cons (pe_tup (pa_cons pe_non (pa_cons pe_non pa_nil))) pa_nil)))))) (pg_tup rfl (pgs_cons (pg_name (i := 7) sc_law.nd rfl (Or.inl rfl)) (pgs_cons (pg_name (i := 8) sc_law.nd rfl (Or.inl rfl)) pgs_nil)))
          (pss_cons (ps_set (i := 9) sc_law.nd rfl (.inl rfl) (pe_and (HG.pe_c o__law_is_number hr (pa_cons (pv 3) pa_nil)) (pe_and (pe_or (pe_cmpR op_isN (pv 7) pe_non (nomark _)) (pe_one (pe_cmpR op_ge (pv 3) (pv 7) (nomark _)))) (pe_one (pe_or (pe_cmpR op_isN (pv 8) pe_non (nomark _)) (pe_one (pe_cmpR op_le (pv 3) (pv 8) (nomark _))))))))
          (pss_one (ps_if (PW.pt (pw_or (pt_cmpR op_ne (pe_callB (HG.call_repr hg hr.units) (by rfl) m_repr (by decide +kernel) (pa_cons (HG.pe_c o_is_within hr (pa_cons (pv 3) (pa_cons (pv 7) (pa_cons (pv 8) pa_nil)))) pa_nil)) (pe_callB (HG.call_repr hg hr.units) (by rfl) m_repr (by decide +kernel) (pa_cons (pv 9) pa_nil)) (nomark _)) (pw_or1 (pt_cmpR op_ne (pe_callB (HG.call_repr hg hr.units) (by rfl) m_repr (by decide +kernel) (pa_cons (HG.pe_cK0 o_is_within kbw hr (pk_cons (pv 8) (pk_cons (pv 7) (pk_cons (pv 3) pk_nil)))) pa_nil)) (pe_callB (HG.call_repr hg hr.units) (by rfl) m_repr (by decide +kernel) (pa_cons (pv 9) pa_nil)) (nomark _)))))
            (pss_one (ps_ret pe_bl))
            pss_nil))))
        (pss_one (ps_if (pt_cmpR op_ne (pe_callB (HG.call_repr hg hr.units) (by rfl) m_repr (by decide +kernel) (pa_cons (pe_lst (pa_cons (HG.pe_c o_is_integer hr (pa_cons (pv 3) pa_nil)) (pa_cons (HG.pe_cK0 o_is_integer kbi hr (pk_cons (pv 3) pk_nil)) pa_nil))) pa_nil)) (pe_callB (HG.call_repr hg hr.units) (by rfl) m_repr (by decide +kernel) (pa_cons (pe_op op_rep (pe_lst (pa_cons (HG.pe_c o__law_is_number hr (pa_cons (pv 3) pa_nil)) pa_nil)) pe_int) pa_nil)) (nomark _))
          (pss_one (ps_ret pe_bl))
          pss_nil)))))))
    (pss_one (ps_ret pe_bl)))), ?_⟩
    refine ⟨_, rfl, a, ns, rfl, hS, hlen, fun g c ms H1 ng nc G k1 => ?_⟩
    refine ⟨5, rfl, by decide, by decide, for_range (n := 5) (fun i σ H2 => ∃ y2 y3 y4 y5 y6 y7 y8 y9, σ = [some (.ref a), some (.ref g), y2, y3, y4, y5, y6, y7, y8, y9] ∧ ∃ at_ r, HD.Gau H2 g c ms at_ r ∧ at_ ≤ 5 * i)
      ⟨none, none, none, none, none, none, none, none, rfl, 0, 0, G, by omega⟩ ?_ ?_⟩
    · rintro i σ H2 hi ⟨y2, y3, y4, y5, y6, y7, y8, y9, rfl, at_, r, G2, ha⟩
      -- value, low, high
      refine ⟨_, rfl, g, c, ms, at_, r, rfl, G2, by omega, fun v a3 r3 H3 hv ha3 G3 k3 => ?_⟩
      refine ⟨_, rfl, g, c, ms, a3, r3, 12, rfl, G3, by decide, by decide, by omega, fun lo0 a4 r4 H4 _ _ ha4 G4 k4 => ?_⟩
      refine ⟨_, _, rfl, rfl, ?_⟩
      refine ⟨_, rfl, g, c, ms, a4, r4, 12, rfl, G4, by decide, by decide, by omega, fun hi0 a5 r5 H5 _ _ ha5 G5 k5 => ?_⟩
      refine ⟨_, _, rfl, rfl, _, _, _, rfl, ?_⟩
      have hv5 : HD.AnyV H5 g v := (hv.kp k4).kp k5
      -- for number in ..
      refine ⟨_, rfl, _, rfl, _, rfl, _, rfl, _, _, rfl, rfl, _, rfl, _, _, rfl, rfl, by show 5 ≤ sizeLine; decide, fun T2 nT2 => ?_⟩
      have hn : ∀ (i : Nat) (x : V), [v, .int (lo0 - 6), .int (hi0 - 6), .int (lo0 - 6 - 1), .int (hi0 - 6 + 1)][i]? = some x → HD.AnyV H5 g x := fun i x hx => by
        have hm := List.mem_of_getElem? hx
        simp only [List.mem_cons, List.not_mem_nil, or_false] at hm
        rcases hm with rfl | rfl | rfl | rfl | rfl
        · exact hv5
        all_goals exact .inl ⟨_, rfl⟩
      refine ⟨T2, rfl, ⟨_, SqT.of upd_same⟩, for_tup (K := K) (a := T2) (xs := [v, .int (lo0 - 6), .int (hi0 - 6), .int (lo0 - 6 - 1), .int (hi0 - 6 + 1)])
        (fun j σ H7 => ∃ y3 y7 y8 y9, σ = [some (.ref a), some (.ref g), some (.int (0 + i)), y3, some v, some (.int (lo0 - 6)), some (.int (hi0 - 6)), y7, y8, y9] ∧ Grow (upd H5 T2 (.tup [v, .int (lo0 - 6), .int (hi0 - 6), .int (lo0 - 6 - 1), .int (hi0 - 6 + 1)])) H7)
        ⟨y3, y7, y8, y9, rfl, fun _ _ z => z⟩ (fun j σ H7 _ z => ?_) ?_ ?_⟩
      · obtain ⟨_, _, _, _, _, k⟩ := z
        exact SqT.of (k _ _ upd_same)
      · rintro j num σ H7 hj ⟨z3, z7, z8, z9, rfl, k7⟩
        have hN := (hn j num hj).kp (HG.Kp.new (g := g) nT2 (o := .tup [v, .int (lo0 - 6), .int (hi0 - 6), .int (lo0 - 6 - 1), .int (hi0 - 6 + 1)]))
        have hN7 : ∀ {HX : Hp}, Grow (upd H5 T2 (.tup [v, .int (lo0 - 6), .int (hi0 - 6), .int (lo0 - 6 - 1), .int (hi0 - 6 + 1)])) HX → HD.AnyV HX g num := fun k => hN.kp (fun p o _ h => k p o h)
        -- for least, most in ..
        refine ⟨_, rfl, _, rfl, by show 2 ≤ sizeLine; decide, fun t1 n1 => ?_⟩
        refine ⟨_, rfl, by show 2 ≤ sizeLine; decide, fun t2 n2 => ?_⟩
        refine ⟨_, rfl, by show 2 ≤ sizeLine; decide, fun t3 n3 => ?_⟩
        refine ⟨by show 2 ≤ sizeLine; decide, fun t4 n4 => ?_⟩
        refine ⟨by show 4 ≤ sizeLine; decide, fun T3 nT3 => ?_⟩
        have ht : ∀ (l : Nat) (x : V), [V.ref t1, .ref t2, .ref t3, .ref t4][l]? = some x → ∃ (t : Addr) (lo hi : Option Int), x = .ref t ∧
            (upd (upd (upd (upd (upd H7 t1 (.tup [.int (lo0 - 6), .int (hi0 - 6)])) t2 (.tup [.non, .int (hi0 - 6)])) t3 (.tup [.int (lo0 - 6), .non])) t4 (.tup [.non, .non])) T3 (.tup [.ref t1, .ref t2, .ref t3, .ref t4])) t = some (.tup [optV lo, optV hi]) := fun l x hx => by
          have hm := List.mem_of_getElem? hx
          simp only [List.mem_cons, List.not_mem_nil, or_false] at hm
          rcases hm with rfl | rfl | rfl | rfl
          · exact ⟨t1, some (lo0 - 6), some (hi0 - 6), rfl, HD.stay nT3 (HD.stay n4 (HD.stay n3 (HD.stay n2 upd_same)))⟩
          · exact ⟨t2, none, some (hi0 - 6), rfl, HD.stay nT3 (HD.stay n4 (HD.stay n3 upd_same))⟩
          · exact ⟨t3, some (lo0 - 6), none, rfl, HD.stay nT3 (HD.stay n4 upd_same)⟩
          · exact ⟨t4, none, none, rfl, HD.stay nT3 upd_same⟩
        have k8 : Grow H7 (upd (upd (upd (upd (upd H7 t1 (.tup [.int (lo0 - 6), .int (hi0 - 6)])) t2 (.tup [.non, .int (hi0 - 6)])) t3 (.tup [.int (lo0 - 6), .non])) t4 (.tup [.non, .non])) T3 (.tup [.ref t1, .ref t2, .ref t3, .ref t4])) :=
          fun p o h => HD.stay nT3 (HD.stay n4 (HD.stay n3 (HD.stay n2 (HD.stay n1 h))))
        refine ⟨T3, rfl, ⟨_, SqT.of upd_same⟩, for_tup (K := K) (a := T3) (xs := [.ref t1, .ref t2, .ref t3, .ref t4])
          (fun l σ H9 => ∃ z7 z8 z9, σ = [some (.ref a), some (.ref g), some (.int (0 + i)), some num, some v, some (.int (lo0 - 6)), some (.int (hi0 - 6)), z7, z8, z9] ∧
            Grow (upd (upd (upd (upd (upd H7 t1 (.tup [.int (lo0 - 6), .int (hi0 - 6)])) t2 (.tup [.non, .int (hi0 - 6)])) t3 (.tup [.int (lo0 - 6), .non])) t4 (.tup [.non, .non])) T3 (.tup [.ref t1, .ref t2, .ref t3, .ref t4])) H9)
          ⟨z7, z8, z9, rfl, fun _ _ z => z⟩ (fun l σ H9 _ z => ?_) ?_ ?_⟩
        · obtain ⟨_, _, _, _, k⟩ := z
          exact SqT.of (k _ _ upd_same)
        · rintro l x σ H9 hx ⟨w7, w8, w9, rfl, k9⟩
          obtain ⟨t, lo, hi, rfl, hT⟩ := ht l x hx
          refine ⟨t, [optV lo, optV hi], rfl, SqT.of (k9 _ _ hT), rfl, optV lo, [optV hi], rfl, optV hi, [], rfl, rfl, ?_⟩
          have gr : ∀ {HX : Hp}, Grow H9 HX → Grow (upd H5 T2 (.tup [v, .int (lo0 - 6), .int (hi0 - 6), .int (lo0 - 6 - 1), .int (hi0 - 6 + 1)])) HX := fun k p o h => k p o (k9 p o (k8 p o (k7 p o h)))
          have sI : Evl.SpV (spInt K) [num] H9 (.bl (isIntV num)) := fun H1 e Q q E => ⟨num, isIntV num, rfl, isI_of (hN7 (gr e)), q H1 (Evl.Ex.refl _)⟩
          have sW : Evl.SpV (spWithin K) [num, optV lo, optV hi] H9 (.bl (within num (isIntV num) lo hi)) := fun H1 e Q q E => ⟨num, isIntV num, lo, hi, rfl, isI_of (hN7 (gr e)), q H1 (Evl.Ex.refl _)⟩
          -- due
          refine Evl.q_asg (v := .bl (within num (isIntV num) lo hi)) ?due (fun HA eA => ?_)
          case due =>
            rcases hN with ⟨n, rfl⟩ | hN
            · refine Evl.ev_is (Evl.ev_andV (a := true) (b := loB lo n && hiB hi n) (Evl.ev_call (Evl.ea_cons (Evl.ev_var rfl) Evl.ea_nil) sI) (fun _ => Evl.ev_andV ?_ (fun _ => ?_))) rfl
              · cases lo with
                | none => exact Evl.ev_is (Evl.ev_orV (a := true) (b := true) (Evl.ev_op (Evl.ev_var rfl) Evl.ev_c HE.rv_isN) (fun h => nomatch h)) rfl
                | some l => exact Evl.ev_is (Evl.ev_orV (a := false) (b := decide (l ≤ n)) (Evl.ev_op (Evl.ev_var rfl) Evl.ev_c HE.rv_isN) (fun _ => Evl.ev_op (Evl.ev_var rfl) (Evl.ev_var rfl) Evl.rv_I0)) rfl
              · cases hi with
                | none => exact Evl.ev_is (Evl.ev_orV (a := true) (b := true) (Evl.ev_op (Evl.ev_var rfl) Evl.ev_c HE.rv_isN) (fun h => nomatch h)) rfl
                | some l => exact Evl.ev_is (Evl.ev_orV (a := false) (b := decide (n ≤ l)) (Evl.ev_op (Evl.ev_var rfl) Evl.ev_c HE.rv_isN) (fun _ => Evl.ev_op (Evl.ev_var rfl) (Evl.ev_var rfl) Evl.rv_I0)) rfl
            · have e0 : isIntV num = false := by
                rcases hN with rfl | ⟨b, rfl⟩ | ⟨x, rfl⟩ | ⟨p, rfl, _⟩ <;> rfl
              have e1 : within num (isIntV num) lo hi = false := by rw [e0]; rfl
              rw [e1]
              rw [e0] at sI
              exact Evl.ev_is (Evl.ev_andV (a := false) (b := true) (Evl.ev_call (Evl.ea_cons (Evl.ev_var rfl) Evl.ea_nil) sI) (fun h => nomatch h)) rfl
          have rb : ∀ H1, Evl.Ex HA H1 → Dp K H1 (.bl (within num (isIntV num) lo hi)) (.bool (within num (isIntV num) lo hi)) := fun _ _ => .bl _
          refine Evl.s_if (b := false) (Evl.et_or (a := false) (b := false) (HE.et_ne (HE.ev_repr (Evl.ev_call (Evl.ea_cons (Evl.ev_var rfl) (Evl.ea_cons (Evl.ev_var rfl) (Evl.ea_cons (Evl.ev_var rfl) Evl.ea_nil))) (fun H1 e => sW H1 (eA.trans e))) rb (.bool _)) (HE.ev_repr (Evl.ev_var rfl) rb (.bool _)))
            (fun _ => HE.et_ne (HE.ev_repr (HE.ev_callN (vs := []) (zs := [optV hi, optV lo, num]) Evl.ea_nil (Evl.ea_cons (Evl.ev_var rfl) (Evl.ea_cons (Evl.ev_var rfl) (Evl.ea_cons (Evl.ev_var rfl) Evl.ea_nil))) rfl rfl (fun H1 e => sW H1 (eA.trans e))) rb (.bool _)) (HE.ev_repr (Evl.ev_var rfl) rb (.bool _)))) (fun h => nomatch h) (fun _ HB eB => ?_)
          exact ⟨_, _, _, rfl, fun p o h => eB _ _ (eA _ _ (k9 p o h))⟩
        · rintro σ H9 ⟨w7, w8, w9, rfl, k9⟩
          have gr : ∀ {HX : Hp}, Grow H9 HX → Grow (upd H5 T2 (.tup [v, .int (lo0 - 6), .int (hi0 - 6), .int (lo0 - 6 - 1), .int (hi0 - 6 + 1)])) HX := fun k p o h => k p o (k9 p o (k8 p o (k7 p o h)))
          have sI : Evl.SpV (spInt K) [num] H9 (.bl (isIntV num)) := fun H1 e Q q E => ⟨num, isIntV num, rfl, isI_of (hN7 (gr e)), q H1 (Evl.Ex.refl _)⟩
          have hd : ∀ H1, Evl.Ex H9 H1 → DpAll K H1 [.bl (isIntV num), .bl (isIntV num)] [.bool (isIntV num), .bool (isIntV num)] := fun _ _ => .cons (.bl _) (.cons (.bl _) .nil)
          have hs : HE.Shows (.list [.bool (isIntV num), .bool (isIntV num)]) := by cases isIntV num <;> exact ⟨rfl, rfl, by decide, by decide +kernel⟩
          refine Evl.s_if (b := false) (HE.et_ne (HE.ev_reprL (Evl.el_lst (Evl.ea_cons (Evl.ev_call (Evl.ea_cons (Evl.ev_var rfl) Evl.ea_nil) sI) (Evl.ea_cons (HE.ev_callN (vs := []) (zs := [num]) Evl.ea_nil (Evl.ea_cons (Evl.ev_var rfl) Evl.ea_nil) rfl rfl sI) Evl.ea_nil)) (by show 2 ≤ 100000; decide)) hd hs)
            (HE.ev_reprL (HE.el_rep (Evl.el_lst (Evl.ea_cons (Evl.ev_call (Evl.ea_cons (Evl.ev_var rfl) Evl.ea_nil) sI) Evl.ea_nil) (by show 1 ≤ 100000; decide)) (by decide) (by decide) (by show 1 ≤ 1000; decide)) hd hs)) (fun h => nomatch h) (fun _ HB eB => ?_)
          exact ⟨_, _, _, _, rfl, fun p o h => eB _ _ (gr (fun _ _ z => z) p o h)⟩
      · rintro σ H7 ⟨z3, z7, z8, z9, rfl, k7⟩
        refine ⟨_, _, _, _, _, _, _, _, rfl, a5, r5, ⟨k7 _ _ ((G5.new nT2).g), k7 _ _ ((G5.new nT2).c), G5.a0, G5.r0, G5.len⟩, ?_⟩
        have h1 : ((i + 1 : Nat) : Int) = (i : Int) + 1 := by omega
        rw [h1]
        omega
    · rintro σ H2 ⟨y2, y3, y4, y5, y6, y7, y8, y9, rfl, _⟩
      exact q _
end
end K02
namespace K02
open PySem PySem.Spec PyProof.Rows L2
theorem all_mk {l : PySem.W.OpenLaw} {w : World} {K : PySem.W.Frag} {h : Heap} {mg : Str → Option Value} {fa f0 f1 f2 f3 f4 f5 f6 f7 : Addr} (X : K.In h) (G : h.Ns mainGlobals mg) (hfa : mg "law" = some (.ref fa))
    {od0 an0 : Option Addr} {sl0 : Array (Option Value)} {oc0 kV0 dc0 pm0 cd0 ct0 : Value} {od1 an1 : Option Addr} {sl1 : Array (Option Value)} {oc1 kV1 dc1 pm1 cd1 ct1 : Value} {od2 an2 : Option Addr} {sl2 : Array (Option Value)} {oc2 kV2 dc2 pm2 cd2 ct2 : Value} {od3 an3 : Option Addr} {sl3 : Array (Option Value)} {oc3 kV3 dc3 pm3 cd3 ct3 : Value} {od4 an4 : Option Addr} {sl4 : Array (Option Value)} {oc4 kV4 dc4 pm4 cd4 ct4 : Value} {od5 an5 : Option Addr} {sl5 : Array (Option Value)} {oc5 kV5 dc5 pm5 cd5 ct5 : Value} {od6 an6 : Option Addr} {sl6 : Array (Option Value)} {oc6 kV6 dc6 pm6 cd6 ct6 : Value} {od7 an7 : Option Addr} {sl7 : Array (Option Value)} {oc7 kV7 dc7 pm7 cd7 ct7 : Value}
    (a0 : PySem.W.nsIn K mainGlobals "is_integer" = some (some (.ref f0))) (l0 : K.lookup f0 = some ⟨oc0, od0, .func (PySem.W.fnOf "is_integer" "is_integer" (defArgs s_is_integer) (defBody s_is_integer) (defScope s_is_integer) .none kV0 dc0 pm0 an0 cd0 ct0), sl0⟩) (c0 : PySem.W.codeIn K cd0 "is_integer" = true) (k0 : PySem.W.keepIn K (.ref f0) = true)
    (a1 : PySem.W.nsIn K mainGlobals "is_within" = some (some (.ref f1))) (l1 : K.lookup f1 = some ⟨oc1, od1, .func (PySem.W.fnOf "is_within" "is_within" (defArgs s_is_within) (defBody s_is_within) (defScope s_is_within) .none kV1 dc1 pm1 an1 cd1 ct1), sl1⟩) (c1 : PySem.W.codeIn K cd1 "is_within" = true) (k1 : PySem.W.keepIn K (.ref f1) = true)
    (a2 : PySem.W.nsIn K mainGlobals "_law_gauge" = some (some (.ref f2))) (l2 : K.lookup f2 = some ⟨oc2, od2, .func (PySem.W.fnOf "_law_gauge" "_law_gauge" (defArgs s__law_gauge) (defBody s__law_gauge) (defScope s__law_gauge) .none kV2 dc2 pm2 an2 cd2 ct2), sl2⟩) (c2 : PySem.W.codeIn K cd2 "_law_gauge" = true) (k2 : PySem.W.keepIn K (.ref f2) = true)
    (a3 : PySem.W.nsIn K mainGlobals "_law_notch" = some (some (.ref f3))) (l3 : K.lookup f3 = some ⟨oc3, od3, .func (PySem.W.fnOf "_law_notch" "_law_notch" (defArgs s__law_notch) (defBody s__law_notch) (defScope s__law_notch) .none kV3 dc3 pm3 an3 cd3 ct3), sl3⟩) (c3 : PySem.W.codeIn K cd3 "_law_notch" = true) (k3 : PySem.W.keepIn K (.ref f3) = true)
    (a4 : PySem.W.nsIn K mainGlobals "_law_one" = some (some (.ref f4))) (l4 : K.lookup f4 = some ⟨oc4, od4, .func (PySem.W.fnOf "_law_one" "_law_one" (defArgs s__law_one) (defBody s__law_one) (defScope s__law_one) .none kV4 dc4 pm4 an4 cd4 ct4), sl4⟩) (c4 : PySem.W.codeIn K cd4 "_law_one" = true) (k4 : PySem.W.keepIn K (.ref f4) = true)
    (a5 : PySem.W.nsIn K mainGlobals "_law_is_number" = some (some (.ref f5))) (l5 : K.lookup f5 = some ⟨oc5, od5, .func (PySem.W.fnOf "_law_is_number" "_law_is_number" (defArgs s__law_is_number) (defBody s__law_is_number) (defScope s__law_is_number) .none kV5 dc5 pm5 an5 cd5 ct5), sl5⟩) (c5 : PySem.W.codeIn K cd5 "_law_is_number" = true) (k5 : PySem.W.keepIn K (.ref f5) = true)
    (a6 : PySem.W.nsIn K mainGlobals "_law_odd" = some (some (.ref f6))) (l6 : K.lookup f6 = some ⟨oc6, od6, .func (PySem.W.fnOf "_law_odd" "_law_odd" (defArgs s__law_odd) (defBody s__law_odd) (defScope s__law_odd) .none kV6 dc6 pm6 an6 cd6 ct6), sl6⟩) (c6 : PySem.W.codeIn K cd6 "_law_odd" = true) (k6 : PySem.W.keepIn K (.ref f6) = true)
    (a7 : PySem.W.nsIn K mainGlobals "law" = some (some (.ref f7))) (l7 : K.lookup f7 = some ⟨oc7, od7, .func (PySem.W.fnOf "law" "law" (defArgs s_law) (defBody s_law) (defScope s_law) .none kV7 dc7 pm7 an7 cd7 ct7), sl7⟩) (c7 : PySem.W.codeIn K cd7 "law" = true) (k7 : PySem.W.keepIn K (.ref f7) = true)
    (z_abs : PySem.W.nsIn K mainGlobals "abs" = some none)
    (z_bool : PySem.W.nsIn K mainGlobals "bool" = some none)
    (z_int : PySem.W.nsIn K mainGlobals "int" = some none)
    (z_isinstance : PySem.W.nsIn K mainGlobals "isinstance" = some none)
    (z_len : PySem.W.nsIn K mainGlobals "len" = some none)
    (z_range : PySem.W.nsIn K mainGlobals "range" = some none)
    (z_repr : PySem.W.nsIn K mainGlobals "repr" = some none)
    (z_str : PySem.W.nsIn K mainGlobals "str" = some none)
    : ∃ fd : FuncData, (∀ (s : Shared) (v : Value), BindsTo s fd ⟨[v], []⟩ [("script", v)]) ∧ ∀ base : Heap, K.In base → base.Ns mainGlobals mg → HG.FnG l.prog w K mg base CX0 4 fa fd ["script"] (spLaw K) := by
  cases hfa.symm.trans (PySem.W.mg_of X G a7)
  have T_is_integer : { T : HG.Tp K mg "is_integer" s_is_integer ["value"] // T.f = f0 ∧ T.fd = PySem.W.fnOf "is_integer" "is_integer" (defArgs s_is_integer) (defBody s_is_integer) (defScope s_is_integer) .none kV0 dc0 pm0 an0 cd0 ct0 } := ⟨HG.tp_mk X G a0 l0 c0 k0 (fun _ _ _ _ _ _ us hl => match us, hl with | [_], _ => rfl), rfl, rfl⟩
  have T_is_within : { T : HG.Tp K mg "is_within" s_is_within ["value", "least", "most"] // T.f = f1 ∧ T.fd = PySem.W.fnOf "is_within" "is_within" (defArgs s_is_within) (defBody s_is_within) (defScope s_is_within) .none kV1 dc1 pm1 an1 cd1 ct1 } := ⟨HG.tp_mk X G a1 l1 c1 k1 (fun _ _ _ _ _ _ us hl => match us, hl with | [_, _, _], _ => rfl), rfl, rfl⟩
  have T__law_gauge : { T : HG.Tp K mg "_law_gauge" s__law_gauge ["script"] // T.f = f2 ∧ T.fd = PySem.W.fnOf "_law_gauge" "_law_gauge" (defArgs s__law_gauge) (defBody s__law_gauge) (defScope s__law_gauge) .none kV2 dc2 pm2 an2 cd2 ct2 } := ⟨HG.tp_mk X G a2 l2 c2 k2 (fun _ _ _ _ _ _ us hl => match us, hl with | [_], _ => rfl), rfl, rfl⟩
  have T__law_notch : { T : HG.Tp K mg "_law_notch" s__law_notch ["gauge", "many"] // T.f = f3 ∧ T.fd = PySem.W.fnOf "_law_notch" "_law_notch" (defArgs s__law_notch) (defBody s__law_notch) (defScope s__law_notch) .none kV3 dc3 pm3 an3 cd3 ct3 } := ⟨HG.tp_mk X G a3 l3 c3 k3 (fun _ _ _ _ _ _ us hl => match us, hl with | [_, _], _ => rfl), rfl, rfl⟩
  have T__law_one : { T : HG.Tp K mg "_law_one" s__law_one ["gauge", "some"] // T.f = f4 ∧ T.fd = PySem.W.fnOf "_law_one" "_law_one" (defArgs s__law_one) (defBody s__law_one) (defScope s__law_one) .none kV4 dc4 pm4 an4 cd4 ct4 } := ⟨HG.tp_mk X G a4 l4 c4 k4 (fun _ _ _ _ _ _ us hl => match us, hl with | [_, _], _ => rfl), rfl, rfl⟩
  have T__law_is_number : { T : HG.Tp K mg "_law_is_number" s__law_is_number ["value"] // T.f = f5 ∧ T.fd = PySem.W.fnOf "_law_is_number" "_law_is_number" (defArgs s__law_is_number) (defBody s__law_is_number) (defScope s__law_is_number) .none kV5 dc5 pm5 an5 cd5 ct5 } := ⟨HG.tp_mk X G a5 l5 c5 k5 (fun _ _ _ _ _ _ us hl => match us, hl with | [_], _ => rfl), rfl, rfl⟩
  have T__law_odd : { T : HG.Tp K mg "_law_odd" s__law_odd ["gauge"] // T.f = f6 ∧ T.fd = PySem.W.fnOf "_law_odd" "_law_odd" (defArgs s__law_odd) (defBody s__law_odd) (defScope s__law_odd) .none kV6 dc6 pm6 an6 cd6 ct6 } := ⟨HG.tp_mk X G a6 l6 c6 k6 (fun _ _ _ _ _ _ us hl => match us, hl with | [_], _ => rfl), rfl, rfl⟩
  have T_law : { T : HG.Tp K mg "law" s_law ["script"] // T.f = fa ∧ T.fd = PySem.W.fnOf "law" "law" (defArgs s_law) (defBody s_law) (defScope s_law) .none kV7 dc7 pm7 an7 cd7 ct7 } := ⟨HG.tp_mk X G a7 l7 c7 k7 (fun _ _ _ _ _ _ us hl => match us, hl with | [_], _ => rfl), rfl, rfl⟩
  have m_abs := PySem.W.mg_none_of X G z_abs
  have m_bool := PySem.W.mg_none_of X G z_bool
  have m_int := PySem.W.mg_none_of X G z_int
  have m_isinstance := PySem.W.mg_none_of X G z_isinstance
  have m_len := PySem.W.mg_none_of X G z_len
  have m_range := PySem.W.mg_none_of X G z_range
  have m_repr := PySem.W.mg_none_of X G z_repr
  have m_str := PySem.W.mg_none_of X G z_str
  refine ⟨PySem.W.fnOf "law" "law" (defArgs s_law) (defBody s_law) (defScope s_law) .none kV7 dc7 pm7 an7 cd7 ct7, fun s v => .of_eq rfl, fun base _ _ => ?_⟩
  let o_is_integer := T_is_integer.1.df (base := base) (P := l.prog) (w := w) (ok_is_integer T_is_integer.1 m_isinstance m_int m_bool)
  let o_is_within := T_is_within.1.df (ok_is_within T_is_within.1 o_is_integer)
  let o__law_gauge := T__law_gauge.1.df (base := base) (P := l.prog) (w := w) (ok__law_gauge T__law_gauge.1 m_int)
  let o__law_notch := T__law_notch.1.df (base := base) (P := l.prog) (w := w) (ok__law_notch T__law_notch.1 m_int m_len m_abs)
  let o__law_one := T__law_one.1.df (ok__law_one T__law_one.1 o__law_notch m_len)
  let o__law_is_number := T__law_is_number.1.df (base := base) (P := l.prog) (w := w) (ok__law_is_number T__law_is_number.1 m_isinstance m_int m_bool)
  let o__law_odd := T__law_odd.1.df (ok__law_odd T__law_odd.1 o__law_notch o__law_one m_str)
  have kbi := HG.kbn (ks := ["value"]) 0 T_is_integer.1 g1 (fun _ r => r) (fun _ _ _ _ _ _ us ws l1 l2 => match us, ws, l1, l2 with | [], [_], _, _ => rfl)
  have kbw := HG.kbn (ks := ["most", "least", "value"]) 0 T_is_within.1 g3 g3_rel (fun _ _ _ _ _ _ us ws l1 l2 => match us, ws, l1, l2 with | [], [_, _, _], _, _ => rfl)
  have res := ok_law T_law.1 o_is_integer kbi o_is_within kbw o__law_gauge o__law_notch o__law_is_number o__law_odd m_range m_repr
  have e := res
  rw [T_law.2.1, T_law.2.2] at e
  exact e
end K02
open PySem PySem.W PyProof.Rows
set_option maxHeartbeats 0 in
theorem PySem.Challenge.cw_roomstair_k02_plain_checks_holds : PySem.Challenge.rw_roomstair_k02_plain_checks.Holds := by
  w_on; o_law; k_head; (case hw => w_witness2)
  k_fill
  refine HG.walk_g (l := PySem.Challenge.rw_roomstair_k02_plain_checks) (n := 63) (k := 4) (x := "script") (CX := fun _ => L2.CX0) (sp := fun w => K02.spLaw _) rfl (by decide) rfl ⟨rfl, by decide, by decide⟩ (fun w h Y => PySem.W.kIn_of Y) ?F (fun _ _ a ns hl _ hS => ⟨a, ns, rfl, hS, hl, fun _ => rfl⟩) (fun _ _ _ _ _ h => h)
  case F =>
    intro w mg fa h KX G hmg
    refine' K02.all_mk KX G hmg ?a0 ?l0 ?c0 ?k0 ?a1 ?l1 ?c1 ?k1 ?a2 ?l2 ?c2 ?k2 ?a3 ?l3 ?c3 ?k3 ?a4 ?l4 ?c4 ?k4 ?a5 ?l5 ?c5 ?k5 ?a6 ?l6 ?c6 ?k6 ?a7 ?l7 ?c7 ?k7 ?z_abs ?z_bool ?z_int ?z_isinstance ?z_len ?z_range ?z_repr ?z_str
    (case a0 => k_is); (case l0 => k_is); (case c0 => k_is); (case k0 => k_is); (case a1 => k_is); (case l1 => k_is); (case c1 => k_is); (case k1 => k_is); (case a2 => k_is); (case l2 => k_is); (case c2 => k_is); (case k2 => k_is); (case a3 => k_is); (case l3 => k_is); (case c3 => k_is); (case k3 => k_is); (case a4 => k_is); (case l4 => k_is); (case c4 => k_is); (case k4 => k_is); (case a5 => k_is); (case l5 => k_is); (case c5 => k_is); (case k5 => k_is); (case a6 => k_is); (case l6 => k_is); (case c6 => k_is); (case k6 => k_is); (case a7 => k_is); (case l7 => k_is); (case c7 => k_is); (case k7 => k_is); (case z_abs => k_is); (case z_bool => k_is); (case z_int => k_is); (case z_isinstance => k_is); (case z_len => k_is); (case z_range => k_is); (case z_repr => k_is); (case z_str => k_is)
