import PyProof.Rows.All
import Wide.All
import OpenK.AllK
import Wide.FinOn
import HandS.ForMost
import HandS.ForExc
import HandS.IsInst
import HandS.Flow
import HandS.Wide
import HandS.WideMore
import HandS.Defaults
import HandS.Style
import HandS.Evl
import HandS.ExcInit
import HandS.ExcField
import HandS.ExcIs
import KE.KExcIs
import HandS.Codes
import HandS.Iter
import HandS.Walk
import HandS.Text
import HandS.TupAny
import PyProof.StrBlock2
import HandS.SetBool
import HandS.Strs
import KE.GoesNew
import HandS.Zip
import HandS.More
import HandS.EndTab
import KE.KDflt
import HandS.Conv
import HandS.Star
import PyProof.StrLawsRepr
import PyProof.ReprLen
import PySem.Challenge.RW_roomstair_k18_what_lies_beyond
set_option Elab.async false
set_option linter.all false
set_option maxRecDepth 100000
/-! HG: promises of defs that are called while no repr is under way, so that repr's text is known. -/
namespace HG
open PySem PySem.Spec PyProof.Rows L2

/-- as a def's promise, but for calls ahead of which nothing guards -/
structure FnG (P : Program) (w : World) (K : PySem.W.Frag) (mg : Str → Option Value) (base : Heap) (CX : CXT) (k : Nat) (f : Addr) (fd : FuncData) (ps : List Str) (sp : Sp) : Prop where
  len : ∀ vs H Q E, sp vs H Q E → vs.length = ps.length
  go : ∀ (A : Around) (ou : List Env) (s : Shared) (H : Hp) (ar : Args) (us : List Value) (vs : List V) (Q : VK) (E : XK),
    A.guards = some [] → Room k A → Env0 P w K mg base A ou s H → BindsTo s fd ar (ps.zip us) → Vals vs us → sp vs H Q E →
    codeAny (model P w) A (.call (.ref f) ar) (CR CX ou P w H s Q E) s
section
variable {P : Program} {w : World} {K : PySem.W.Frag} {mg : Str → Option Value} {base : Heap} {CX : CXT} {k : Nat} {f : Addr} {fd : FuncData} {ps : List Str} {sp : Sp}
theorem FnG.of (F : FnOk P w K mg base CX k f fd ps sp) : FnG P w K mg base CX k f fd ps sp :=
  ⟨F.len, fun A ou s H ar us vs Q E _ => F.run A ou s H ar us vs Q E⟩
theorem FnG.mono {j : Nat} (F : FnG P w K mg base CX j f fd ps sp) (h : j ≤ k) : FnG P w K mg base CX k f fd ps sp :=
  ⟨F.len, fun A ou s H ar us vs Q E g r => F.go A ou s H ar us vs Q E g (r.mono h)⟩
/-- a def by its body -/
theorem fn_g {x qual : Str} {st : Stmt} {N : List Str} (F : Fun K x qual st f fd) (S : FnScope N ps (defScope st)) (len : ∀ vs H Q E, sp vs H Q E → vs.length = ps.length)
    (hb : ∀ (cdv : Value) (A : Around) (ou : List Env) (s : Shared) (H : Hp) (vs : List V) (Q : VK) (E : XK), (A.deeper (envOfC qual (defScope st) s.heap.objs.size f cdv)).guards = some [] →
      Room k (A.deeper (envOfC qual (defScope st) s.heap.objs.size f cdv)) → sp vs H Q E →
      ∃ t, PSs (cxOf CX P w K mg base N qual (defScope st) f cdv A ou s H E) (defBody st) t ∧ t { nx := fun _ H' => Q .non H', rt := Q } (start N vs) H) :
    FnG P w K mg base CX (k + 1) f fd ps sp := by
  obtain ⟨oc, od, kV, doc, pm, an, cdv, ct, osl, rfl, lk, hcd⟩ := F.ex
  constructor
  · exact len
  intro A ou s H ar us vs Q E g room e0 binds rv q0
  have h1 := len vs H Q E q0
  have h2 : K.In s.heap := e0.mod.kin.keeps (fun b o z => (e0.bs b o z).1)
  have h3 : s.heap.NoLimit := e0.mod.nolimit.keeps (fun b o z => (e0.bs b o z).1)
  have h4 : ∀ y ∈ ps.zip us, (defScope st).names.lookup y.1 = some .local ∨ ((defScope st).names.lookup y.1 = some .cell ∧ ((cellsFrom (s.heap.objs.size + 1) (defScope st).names []).lookup y.1).isSome = true) := by
    intro y hy
    have hm := (List.of_mem_zip (show (y.1, y.2) ∈ ps.zip us from hy)).1
    cases S.par y.1 hm with
    | inl q => exact Or.inl q
    | inr q => exact Or.inr ⟨q, PySem.W.cellsFrom_some _ _ _ (Or.inl q)⟩
  apply codeAny_call_function room.depth (h2 _ _ lk) rfl S.co S.gen rfl (PySem.W.codeRec_of h2 hcd)
  apply binds
  apply wpAny_newFunctionEnv_cells S.kind h4
  intro env heq s1 ic
  cases heq
  refine And.intro (Heap.NoLimit.keeps h3 ic.toInCall.keep) (codeAny_func ?_)
  cases hb cdv A ou s H vs Q E g (Room.deeper room _) q0 with
  | intro t ht =>
    have J0 := inv_start (CX := CX) (E := E) S room.hd e0 h1 rv ic
    apply wpAny_mono (ht.1.run [] s1 (start N vs) H _ J0 ht.2)
    · intro fl s2 z
      cases fl with
      | ret u => exact let ⟨v, _, H2, J, r, q⟩ := z; ⟨v, H2, J.os, J.bare, J.base, J.hok, r, q⟩
      | next => exact let ⟨_, H2, J, q⟩ := z; ⟨V.non, H2, J.os, J.bare, J.base, J.hok, (rfl : Value.none = Value.none), q⟩
      | brk => exact let ⟨_, _, _, q⟩ := z; q.elim
      | cont => exact let ⟨_, _, _, q⟩ := z; q.elim
    · exact fun _ _ z => z
end
section
variable {X : Cx} {CX : CXT} {k : Nat} {f : Addr} {fd : FuncData} {ps : List Str} {sp : Sp} {dvs : List V} {ds : List Value} {E : XK} {x : Str} {p pos : Pos} {e : Expr} {es : List Expr} {t : TA}
theorem go_fn {pins : List (Addr × Obj)} {σ : L2.St} {H : Hp} {s : Shared} {Q : VK} {us : List Value} {vs : List V} (g : X.A.guards = some []) (F : FnG X.prog X.w X.K X.mg X.base CX k f fd ps sp) (hr : Room k X.A) (hb : Binds X.K fd ps ds) (hd : Vals dvs ds) (hx : Passes CX X E)
    (I : Inv X pins σ H s) (r : Vals vs us) (h : sp (vs ++ dvs) H Q E) : wpAny (model X.prog X.w) X.A (call (.ref f) us) (EP X pins σ Q) X.xe s := by
  have rr := Vals.append r hd
  have ln : (us ++ ds).length = ps.length := (Vals.length rr).symm.trans (F.len _ _ _ _ h)
  apply wpAny_call
  apply codeAny_mono (F.go X.A X.stack s H ⟨us, []⟩ (us ++ ds) (vs ++ dvs) Q E g hr I.env0 (hb s us I.kIn ln) rr h)
  intro r s2 z
  cases r with
  | error e => exact hx pins σ H s e s2 I z
  | ok fl =>
    cases fl with
    | ret u => exact Inv.after I z
    | next => exact z.elim
    | brk => exact z.elim
    | cont => exact z.elim
/-- f(e, ..) -/
theorem pe_callG (g : X.A.guards = some []) (F : FnG X.prog X.w X.K X.mg X.base CX k f fd ps sp) (hr : Room k X.A) (hg : Gl X x) (hm : X.mg x = some (.ref f)) (hk : PySem.W.keepIn X.K (.ref f) = true) (hb : Binds X.K fd ps ds) (hd : Vals dvs ds) (hx : Passes CX X E)
    (ha : PA X (e :: es) t) (n1 : (x == ("__debug__" : Str)) = false := by decide) (n2 : starEach (e :: es) X.env = (false, eval e X.env) :: starEach es X.env := by rfl) (n3 : (backTo pos (starEach es X.env)).any (·.1) = false := by rfl) :
    PE X (.Call (.Name x p) (e :: es) [] pos) (tCall sp dvs E t) := by
  constructor
  intro pins s σ H Q I h
  apply wpAny_Call_Name_kw (ld_glob I hg hm _ n1)
  exact PySem.W.callWith_K (h₀ := X.base) I.ok.mod.kin hk (thn (ha.run pos pins s σ H _ I h) (fun us s1 ⟨vs, H1, I1, r, q⟩ => ⟨I1.kIn, go_fn g F hr hb hd hx I1 r q⟩)) n2 n3
/-- repr of plain data -/
def rRepr (K : PySem.W.Frag) : List V → Hp → VK → Prop := fun xs H Q => ∃ x d, xs = [x] ∧ Dp K H x d ∧ d.showable = true ∧ d.hasDict = false ∧ d.depth ≤ 30 ∧ d.shown.length ≤ sizeLine ∧ Q (.str d.shown) H
theorem call_repr (g : X.A.guards = some []) (hu : X.A.units + 64 < cLine) : CallR X (.builtin "repr") (rRepr X.K) := by
  intro pins s σ H xs us Q I r h
  obtain ⟨x, d, rfl, hd, hs, hn, hp, hz, q⟩ := h
  obtain ⟨u, rfl, r1⟩ := vals1 r
  obtain ⟨as, rd⟩ := Dp.reads I d x u hd r1
  cases d with
  | none =>
    cases hd
    cases (show u = Value.none from r1)
    exact PySem.P.repr_of_none ⟨.str _, H, I.tok _, ⟨_, rfl⟩, q⟩
  | bool b =>
    cases hd
    cases (show u = Value.bool b from r1)
    exact PySem.P.repr_of_bool ⟨.str _, H, I.tok _, ⟨_, rfl⟩, q⟩
  | int i =>
    cases hd
    obtain ⟨t, rfl⟩ := (show ∃ t, u = Value.int i t from r1)
    exact PySem.P.repr_of_int (of_decide_eq_true hs) ⟨.str _, H, I.tok _, ⟨_, rfl⟩, q⟩
  | str z =>
    cases hd
    obtain ⟨t, rfl⟩ := (show ∃ t, u = Value.str z t from r1)
    exact PySem.P.repr_of_str ⟨.str _, H, I.tok _, ⟨_, rfl⟩, q⟩ hz
  | list ds =>
    cases hd
    cases (show u = Value.ref _ from r1)
    exact repr_of_reads' rd hs (PyData.noDict_hsm hn) g (by omega) (fun _ _ z => z) (fun h2 u2 tk kp => ⟨.str _, H, I.kept kp, ⟨_, rfl⟩, q⟩) hz
  | tuple ds =>
    cases hd
    cases (show u = Value.ref _ from r1)
    exact repr_of_reads' rd hs (PyData.noDict_hsm hn) g (by omega) (fun _ _ z => z) (fun h2 u2 tk kp => ⟨.str _, H, I.kept kp, ⟨_, rfl⟩, q⟩) hz
  | dict kvs => cases hd
end
/-- the script's place, as the law's def finds it: among the module's own objects, or locked -/
def ScrH (K : PySem.W.Frag) (a : Addr) (vs : List Value) (ns : List Int) : Hp := fun b =>
  if b = a ∧ K.lookup a = none then some (.frz { cls := .type "list", data := .seq vs.toArray } (.lst (ns.map V.int))) else none
theorem scrH_some {K : PySem.W.Frag} {a b : Addr} {vs : List Value} {ns : List Int} {u : HO} (h : ScrH K a vs ns b = some u) : b = a ∧ K.lookup a = none ∧ u = .frz { cls := .type "list", data := .seq vs.toArray } (.lst (ns.map V.int)) := by
  unfold ScrH at h
  by_cases q : b = a ∧ K.lookup a = none
  · rw [if_pos q] at h
    exact ⟨q.1, q.2, (Option.some.inj h).symm⟩
  · rw [if_neg q] at h
    cases h
theorem law_g {P : Program} {w : World} {K : PySem.W.Frag} {mg mb : Str → Option Value} {CX : CXT} {k : Nat} {fa a : Addr} {fd : FuncData} {x : Str} {sp : Sp} {s₁ : Shared} {vs : List Value} {ns : List Int}
    (KX : K.In s₁.heap) (n1 : s₁.heap.Ns mainGlobals mg) (n2 : s₁.heap.Ns builtinsNs mb) (n3 : ∀ x : Str, x ≠ "__name__" → mb x = bootBuiltins x) (n4 : s₁.heap.NoLimit) (n5 : s₁.gens = #[])
    (ha : s₁.heap.get? a = some { cls := .type "list", data := .seq vs.toArray }) (hi : IntsAre vs ns) (hl : ns.length ≤ sizeLine) (hr : Room k callerA)
    (F : ∀ base : Heap, K.In base → base.Ns mainGlobals mg → FnG P w K mg base CX k fa fd [x] sp) (bi : ∀ (s : Shared) (u : Value), BindsTo s fd ⟨[u], []⟩ [(x, u)])
    (hsp : ∀ H : Hp, Only H → SqL K H a (ns.map V.int) → sp [.ref a] H (fun v _ => v = .bl true) fun _ _ _ => False)
    (hCX : ∀ H e s', CX [] H s₁ (fun _ _ _ => False) e s' → False) :
    codeAny (model P w) callerA (.call (.ref fa) ⟨[.ref a], []⟩) (fun r s' => r = .ok (.ret (.bool true)) ∧ OldK s₁.heap s'.heap ∧ s'.os = s₁.os ∧ AllBare s'.gens) s₁ := by
  have rv := vals_ints hi
  have lv := hi.length
  let H : Hp := ScrH K a vs ns
  have hH : ∀ {b : Addr} {u : HO}, H b = some u → b = a ∧ K.lookup a = none ∧ u = .frz { cls := .type "list", data := .seq vs.toArray } (.lst (ns.map V.int)) := fun h => scrH_some h
  have hO : Only H := fun b => by
    cases q : H b with
    | none => exact .inl rfl
    | some u => exact .inr ⟨_, _, congrArg some (hH q).2.2⟩
  have hS : SqL K H a (ns.map V.int) := by
    cases hk : K.lookup a with
    | none => exact .inl (.inr ⟨_, if_pos ⟨rfl, hk⟩⟩)
    | some o =>
      have e := KX a o hk
      rw [ha] at e
      cases e
      exact .inr ⟨_, vs.toArray, _, hk, rfl, rfl, rfl, by rw [List.size_toArray, lv]; exact hl, by simpa using rv⟩
  have hok : HOk P w H s₁.heap := fun b u q => by
    obtain ⟨rfl, _, rfl⟩ := hH q
    exact ⟨ha, by rw [List.length_map]; exact hl, vs, _, rv, ha⟩
  have dictFree : ∀ {b : Addr} {o : Obj} {es : Array DictEntry} {ep : Nat}, s₁.heap.get? b = some o → o.data = .dict es ep → H b = none := fun {b o es ep} z d => by
    cases q : H b with
    | none => rfl
    | some u =>
      obtain ⟨rfl, _, _⟩ := hH q
      rw [ha] at z
      cases z
      exact nomatch d
  have ns' : ∀ {b : Addr} {m : Str → Option Value}, s₁.heap.Ns b m → (hidT s₁.heap H).Ns b m := fun ⟨o, es, ep, z, d, r⟩ => ⟨o, es, ep, hidT_get z (dictFree z d), d, r⟩
  have kin : K.In (hidT s₁.heap H) := fun b o z => hidT_get (KX b o z) (by
    cases q : H b with
    | none => rfl
    | some u =>
      obtain ⟨rfl, y, _⟩ := hH q
      rw [y] at z
      cases z)
  have lim : (hidT s₁.heap H).NoLimit := let ⟨mc, y1, y2⟩ := n4; ⟨mc, ns' y1, y2⟩
  have e0 : Env0 P w K mg (hidT s₁.heap H) callerA [] s₁ H :=
    { frames := rfl, mod := ⟨kin, ns' n1, ⟨mb, ns' n2, n3⟩, lim⟩, bs := fun b o z => of_hidT z, bsz := Nat.le_of_eq (hidT_size _ _), funs := trivial, frf := fun b hb => (List.not_mem_nil hb).elim, hok := hok, bare := .of_eq n5 }
  apply codeAny_mono ((F _ kin (ns' n1)).go callerA [] s₁ H ⟨[.ref a], []⟩ [.ref a] [.ref a] _ _ rfl hr e0 (bi s₁ (.ref a)) (.cons rfl .nil) (hsp H hO hS))
  intro r s2 z
  cases r with
  | error e => exact (hCX H e s2 z).elim
  | ok fl =>
    cases fl with
    | next => exact z.elim
    | brk => exact z.elim
    | cont => exact z.elim
    | ret u =>
      obtain ⟨v, H2, os, bare, un, hok2, r2, q⟩ := z
      cases (show v = .bl true from q)
      cases (show u = Value.bool true from r2)
      refine And.intro rfl (And.intro (OldK.of_keep fun b o y => ?_) (And.intro os bare))
      cases qb : H b with
      | none => exact un.keep b o y qb List.not_mem_nil List.not_mem_nil
      | some u =>
        obtain ⟨rfl, _, rfl⟩ := hH qb
        have y2 := (hok2 b _ (un.frzs b _ _ qb)).1
        rw [ha] at y
        cases y
        exact y2
theorem walk_g {l : PySem.W.OpenLaw} {n k : Nat} {q : Program} {loose : List Str} {XP : (Str → Option Value) → Heap → Prop} {YP : World → Heap → Prop} {d : DefRec} {K : Params → PySem.W.Frag} {CX : World → CXT} {sp : World → Sp} {x : Str}
    (hn : l.most = some n) (hn2 : n ≤ sizeLine) (hdf : d.params.defaults = []) (hr : Room k callerA)
    (hY : ∀ (w : World) (h : Heap), YP w h → (K w.params).In h)
    (F : ∀ (w : World) (mg : Str → Option Value) (fa : Addr) (h : Heap), (K w.params).In h → h.Ns mainGlobals mg → mg d.name = some (.ref fa) →
      ∃ fd : FuncData, (∀ (s : Shared) (u : Value), BindsTo s fd ⟨[u], []⟩ [(x, u)]) ∧
        ∀ base : Heap, (K w.params).In base → base.Ns mainGlobals mg → FnG l.prog w (K w.params) mg base (CX w) k fa fd [x] (sp w))
    (hsp : ∀ (w : World) (H : Hp) (a : Addr) (ns : List Int), ns.length ≤ n → Only H → SqL (K w.params) H a (ns.map V.int) → sp w [.ref a] H (fun v _ => v = .bl true) fun _ _ _ => False)
    (hCX : ∀ (w : World) (H : Hp) (s : Shared) (e : Value) (s' : Shared), CX w [] H s (fun _ _ _ => False) e s' → False) :
    PySem.W.WalkO q loose XP YP l.row.toRowW d [] (fun f vs => PySem.call f vs) := by
  apply Att.attach_call hn hdf
  intro w s₀ s₁ mg mb fa o pm cd doc a vs ns G Y _ _ _ hmg ho hi hl hg
  cases F w mg fa _ (hY w _ Y) G.T.g hmg with
  | intro fd z => exact law_g (hY w _ Y) G.T.g G.T.b G.T.builtins G.T.nolimit hg ho hi (Nat.le_trans hl hn2) hr z.2 z.1 (fun H y1 y2 => hsp w H a ns hl y1 y2) (fun H e s2 => hCX w H s₁ e s2)

/-! ### short words -/
section
variable {P : Program} {w : World} {K : PySem.W.Frag} {mg : Str → Option Value} {base : Heap}
/-- as fn_g, for a def that lets nothing out -/
theorem fn_g0 {k : Nat} {f : Addr} {fd : FuncData} {ps : List Str} {sp : Sp} {x qual : Str} {st : Stmt} {N : List Str} (F : Fun K x qual st f fd) (S : FnScope N ps (defScope st)) (len : ∀ vs H Q E, sp vs H Q E → vs.length = ps.length)
    (hb : ∀ (cdv : Value) (A : Around) (ou : List Env) (s : Shared) (H : Hp) (vs : List V) (Q : VK) (E : XK), (A.deeper (envOfC qual (defScope st) s.heap.objs.size f cdv)).guards = some [] →
      Room k (A.deeper (envOfC qual (defScope st) s.heap.objs.size f cdv)) → sp vs H Q E →
      ∃ t, PSs (cxOf CX0 P w K mg base N qual (defScope st) f cdv A ou s H E).nox (defBody st) t ∧ t { nx := fun _ H' => Q .non H', rt := Q } (start N vs) H) :
    FnG P w K mg base CX0 (k + 1) f fd ps sp := by
  apply fn_g F S len
  intro cdv A ou s H vs Q E g r q
  cases hb cdv A ou s H vs Q E g r q with
  | intro t z => exact ⟨t, PSs.nox z.1, z.2⟩
/-- a def as the top left it, with its promise -/
structure Df (P : Program) (w : World) (K : PySem.W.Frag) (mg : Str → Option Value) (base : Heap) (CX : CXT) (k : Nat) (x : Str) (ps : List Str) (sp : Sp) where
  f : Addr
  fd : FuncData
  ok : FnOk P w K mg base CX k f fd ps sp
  m : mg x = some (.ref f)
  kp : PySem.W.keepIn K (.ref f) = true
  b : Binds K fd ps []
/-- a def as the top left it -/
structure Tp (K : PySem.W.Frag) (mg : Str → Option Value) (x : Str) (st : Stmt) (ps : List Str) where
  f : Addr
  fd : FuncData
  F : Fun K x x st f fd
  m : mg x = some (.ref f)
  b : Binds K fd ps []
def Tp.df {x : Str} {st : Stmt} {ps : List Str} {CX : CXT} {k : Nat} {sp : Sp} (T : Tp K mg x st ps) (F : FnOk P w K mg base CX k T.f T.fd ps sp) : Df P w K mg base CX k x ps sp := ⟨T.f, T.fd, F, T.m, T.F.kp, T.b⟩
def tp_mk {h : Heap} {x : Str} {st : Stmt} {ps : List Str} {f : Addr} {oc kV doc pm cdv ct : Value} {od an : Option Addr} {osl : Array (Option Value)} (X : K.In h) (G : h.Ns mainGlobals mg) (a : PySem.W.nsIn K mainGlobals x = some (some (.ref f)))
    (l : K.lookup f = some ⟨oc, od, .func (PySem.W.fnOf x x (defArgs st) (defBody st) (defScope st) .none kV doc pm an cdv ct), osl⟩) (c : PySem.W.codeIn K cdv x = true) (k : PySem.W.keepIn K (.ref f) = true)
    (hb : ∀ (kV doc pm : Value) (an : Option Addr) (cdv ct : Value) (us : List Value), us.length = ps.length → bindArgs (PySem.W.fnOf x x (defArgs st) (defBody st) (defScope st) .none kV doc pm an cdv ct) ⟨us, []⟩ = pure (ps.zip us)) : Tp K mg x st ps :=
  ⟨f, _, fun_mk l c k, PySem.W.mg_of X G a, (fun_mk l c k).binds hb⟩
/-- how a call with keywords alone binds -/
theorem kbn {x : Str} {st : Stmt} {ps ks : List Str} (n : Nat) (T : Tp K mg x st ps) (g : {α : Type} → List α → List α → List α)
    (hrel : ∀ {vs : List V} {us : List Value} {zs : List V} {ws : List Value}, Vals vs us → Vals zs ws → Vals (g vs zs) (g us ws))
    (h : ∀ (kV doc pm : Value) (an : Option Addr) (cdv ct : Value) (us ws : List Value), us.length = n → ws.length = ks.length →
      bindArgs (PySem.W.fnOf x x (defArgs st) (defBody st) (defScope st) .none kV doc pm an cdv ct) ⟨us, ks.zip ws⟩ = pure (ps.zip (g us ws))) : KBn K T.fd ps n ks g g := by
  obtain ⟨oc, od, kV, doc, pm, an, cdv, ct, osl, e, _, _⟩ := T.F.ex
  exact ⟨fun s us ws _ l1 l2 => by rw [e]; exact .of_eq (h kV doc pm an cdv ct us ws l1 l2), fun r1 r2 => hrel r1 r2⟩
end
section
variable {X : Cx} {CX : CXT} {k j : Nat} {ps ks : List Str} {sp : Sp} {x : Str} {p pos : Pos} {e : Expr} {es : List Expr} {kws : List Keyword} {t tk : TA} {g : List Value → List Value → List Value} {gV : List V → List V → List V}
theorem p0 {E : XK} : Passes CX0 X E := fun _ _ _ _ _ _ _ h => h.elim
theorem pe_c (o : Df X.prog X.w X.K X.mg X.base CX0 k x ps sp) (hr : Room j X.A) (ha : PA X (e :: es) t) (hk : k ≤ j := by decide) (hg : Gl X x := by rfl)
    (n1 : (x == ("__debug__" : Str)) = false := by decide) (n2 : starEach (e :: es) X.env = (false, eval e X.env) :: starEach es X.env := by rfl) (n3 : (backTo pos (starEach es X.env)).any (·.1) = false := by rfl) :
    PE X (.Call (.Name x p) (e :: es) [] pos) (tCall sp [] E0 t) := pe_call o.ok (hr.mono hk) hg o.m o.kp o.b .nil p0 ha n1 n2 n3
theorem pe_c0 (o : Df X.prog X.w X.K X.mg X.base CX0 k x ps sp) (hr : Room j X.A) (hk : k ≤ j := by decide) (hg : Gl X x := by rfl)
    (n1 : (x == ("__debug__" : Str)) = false := by decide) : PE X (.Call (.Name x p) [] [] pos) (tCall sp [] E0 tNil) := pe_call0 o.ok (hr.mono hk) hg o.m o.kp o.b .nil p0 n1
/-- f(k = v, ..) -/
theorem pe_cK0 (o : Df X.prog X.w X.K X.mg X.base CX0 k x ps sp) (hb : KBn X.K o.fd ps 0 ks g gV) (hr : Room j X.A) (hw : PK X kws tk) (hk : k ≤ j := by decide) (hg : Gl X x := by rfl)
    (n0 : (backToKw pos (keywordEach kws X.env)).all (·.1.isSome) = true := by rfl) (n1 : (backToKw pos (keywordEach kws X.env)).filterMap (·.1) = ks := by rfl) (n2 : (x == ("__debug__" : Str)) = false := by decide)
    (n3 : ((backTo pos (starEach [] X.env)).any (·.1) || (backToKw pos (keywordEach kws X.env)).any (·.1.isNone)) = false := by rfl) :
    PE X (.Call (.Name x p) [] kws pos) (tCallN 0 ks.length sp gV E0 tNil tk) := by
  constructor
  intro pins s σ H Q I h
  apply wpAny_Call_Name_kw (ld_glob I hg o.m _ n2)
  apply PySem.W.callWith_KW0 (h₀ := X.base) I.ok.mod.kin o.kp n0 _ n3
  refine thn (hw.run pos pins s σ H _ I h) (fun ws s2 z => ?_)
  obtain ⟨zs, H2, J, rz, l1, l2, q⟩ := z
  refine And.intro J.kIn ?_
  rw [n1]
  exact run_fnN (us := []) (vs := []) o.ok (hr.mono hk) hb p0 J .nil rz rfl l2 q
/-- a def that may raise, where it does not -/
theorem pe_cL (o : Df X.prog X.w X.K X.mg X.base (L2.CX X.prog X.w) k x ps sp) (hr : Room j X.A) (ha : PA X (e :: es) t) (hk : k ≤ j := by decide) (hg : Gl X x := by rfl)
    (n1 : (x == ("__debug__" : Str)) = false := by decide) (n2 : starEach (e :: es) X.env = (false, eval e X.env) :: starEach es X.env := by rfl) (n3 : (backTo pos (starEach es X.env)).any (·.1) = false := by rfl) :
    PE X (.Call (.Name x p) (e :: es) [] pos) (tCall sp [] E0 t) := pe_call o.ok (hr.mono hk) hg o.m o.kp o.b .nil passL ha n1 n2 n3
theorem pe_cKL0 (o : Df X.prog X.w X.K X.mg X.base (L2.CX X.prog X.w) k x ps sp) (hb : KBn X.K o.fd ps 0 ks g gV) (hr : Room j X.A) (hw : PK X kws tk) (hk : k ≤ j := by decide) (hg : Gl X x := by rfl)
    (n0 : (backToKw pos (keywordEach kws X.env)).all (·.1.isSome) = true := by rfl) (n1 : (backToKw pos (keywordEach kws X.env)).filterMap (·.1) = ks := by rfl) (n2 : (x == ("__debug__" : Str)) = false := by decide)
    (n3 : ((backTo pos (starEach [] X.env)).any (·.1) || (backToKw pos (keywordEach kws X.env)).any (·.1.isNone)) = false := by rfl) :
    PE X (.Call (.Name x p) [] kws pos) (tCallN 0 ks.length sp gV E0 tNil tk) := by
  constructor
  intro pins s σ H Q I h
  apply wpAny_Call_Name_kw (ld_glob I hg o.m _ n2)
  apply PySem.W.callWith_KW0 (h₀ := X.base) I.ok.mod.kin o.kp n0 _ n3
  refine thn (hw.run pos pins s σ H _ I h) (fun ws s2 z => ?_)
  obtain ⟨zs, H2, J, rz, l1, l2, q⟩ := z
  refine And.intro J.kIn ?_
  rw [n1]
  exact run_fnN (us := []) (vs := []) o.ok (hr.mono hk) hb passL J .nil rz rfl l2 q
/-- a def that may raise, within a try -/
theorem pe_cS {W : WX} (o : Df X.prog X.w X.K X.mg X.base (L2.CX X.prog X.w) k x ps sp) (hr : Room j X.A) (tk : Takes X W) (ha : PA X (e :: es) t) (hk : k ≤ j := by decide) (hg : Gl X x := by rfl)
    (n1 : (x == ("__debug__" : Str)) = false := by decide) (n2 : starEach (e :: es) X.env = (false, eval e X.env) :: starEach es X.env := by rfl) (n3 : (backTo pos (starEach es X.env)).any (·.1) = false := by rfl) :
    PE X (.Call (.Name x p) (e :: es) [] pos) (tCallS sp (WE W) t) := pe_callS o.ok (hr.mono hk) hg o.m o.kp o.b (fun σ => passAt tk σ) ha n1 n2 n3
theorem pe_ty {T : String} (hg : Gl X x) (hm : X.mg x = none) (hv : bootBuiltins x = some (.type T)) (hn : x ≠ "__name__" := by decide) (hd : (x == ("__debug__" : Str)) = false := by decide) : PE X (.Name x pos) (tC (.ty T)) :=
  pe_bltn hg hm hv rfl hn hd
end
/-! ### heaps -/
/-- what stands at other places than g still stands -/
def Kp (g : Addr) (H H' : Hp) : Prop := ∀ p o, p ≠ g → H p = some o → H' p = some o
theorem Kp.refl {g : Addr} {H : Hp} : Kp g H H := fun _ _ _ h => h
theorem Kp.trans {g : Addr} {H H1 H2 : Hp} (a : Kp g H H1) (b : Kp g H1 H2) : Kp g H H2 := fun p o n h => b p o n (a p o n h)
theorem Kp.new {g p : Addr} {H : Hp} {o : HO} (h : H p = none) : Kp g H (upd H p o) := fun q u _ e => by rw [upd_ne (ne_of_none e h)]; exact e
theorem Kp.at {g : Addr} {H : Hp} {o : HO} : Kp g H (upd H g o) := fun q u n e => by rw [upd_ne n]; exact e
theorem Kp.seq {g a : Addr} {H H' : Hp} {K : PySem.W.Frag} {xs : List V} (k : Kp g H H') (n : a ≠ g) (h : SqL K H a xs) : SqL K H' a xs := by
  rcases h with (h | ⟨o, h⟩) | h
  · exact .inl (.inl (k _ _ n h))
  · exact .inl (.inr ⟨o, k _ _ n h⟩)
  · exact .inr h
end HG
/-! HD: a law's draws: the gauge (a list of the cells, how many were read, what is left), the facts about numbers. -/
namespace HD
open PySem PySem.Spec PyProof.Rows L2
/-- the gauge at g, its cells at c -/
structure Gau (H : Hp) (g c : Addr) (ns : List Int) (at_ rest : Int) : Prop where
  g : H g = some (.lst [.ref c, .int at_, .int rest])
  c : H c = some (.lst (ns.map V.int))
  a0 : 0 ≤ at_
  r0 : 0 ≤ rest
  len : ns.length ≤ 63
theorem Gau.ne {H : Hp} {g c : Addr} {ns : List Int} {a r : Int} (G : Gau H g c ns a r) : c ≠ g := fun e => by
  have h := G.g
  rw [← e, G.c] at h
  have h2 := HO.lst.inj (Option.some.inj h)
  cases ns with
  | nil => cases h2
  | cons x r => exact nomatch (List.cons.inj h2).1
theorem Gau.kp {H H' : Hp} {g c : Addr} {ns : List Int} {a r : Int} {q : Addr} (G : Gau H g c ns a r) (k : HG.Kp q H H') (n1 : g ≠ q) (n2 : c ≠ q) : Gau H' g c ns a r := ⟨k _ _ n1 G.g, k _ _ n2 G.c, G.a0, G.r0, G.len⟩
theorem Gau.new {H : Hp} {g c p : Addr} {o : HO} {ns : List Int} {a r : Int} (G : Gau H g c ns a r) (n : H p = none) : Gau (upd H p o) g c ns a r :=
  ⟨by rw [upd_ne (ne_of_none G.g n)]; exact G.g, by rw [upd_ne (ne_of_none G.c n)]; exact G.c, G.a0, G.r0, G.len⟩
theorem Gau.put {H : Hp} {g c : Addr} {ns : List Int} {a r a' r' : Int} {o : HO} (G : Gau H g c ns a r) (e : o = .lst [.ref c, .int a', .int r']) (h1 : 0 ≤ a') (h2 : 0 ≤ r') : Gau (upd H g o) g c ns a' r' :=
  ⟨by rw [upd_same, e], by rw [upd_ne G.ne]; exact G.c, h1, h2, G.len⟩
/-- behind a draw or more of them: the gauge stands, all else too; n: how many were drawn at most -/
structure Drew (g c : Addr) (ns : List Int) (n : Int) (H : Hp) (a : Int) (H' : Hp) : Prop where
  ex : ∃ a' r', Gau H' g c ns a' r' ∧ a' ≤ a + n
  kp : HG.Kp g H H'
/-- what a draw promises: 0 to many - 1 -/
def spDraw : Sp := fun vs H Q _ => ∃ g c ns a r many, vs = [.ref g, .int many] ∧ Gau H g c ns a r ∧ 0 < many ∧ many < 1000000 ∧ a < 1000000 ∧
  ∀ x a' r' H', 0 ≤ x → x < many → a' ≤ a + 1 → Gau H' g c ns a' r' → HG.Kp g H H' → Q (.int x) H'
/-- one of a list -/
def spOne (K : PySem.W.Frag) : Sp := fun vs H Q _ => ∃ g c ns a r l xs, vs = [.ref g, .ref l] ∧ Gau H g c ns a r ∧ a < 1000000 ∧ l ≠ g ∧ SqL K H l xs ∧ xs ≠ [] ∧ xs.length < 1000000 ∧
  ∀ x a' r' H', x ∈ xs → a' ≤ a + 1 → Gau H' g c ns a' r' → HG.Kp g H H' → Q x H'
theorem fdiv_nn {a b : Int} (h1 : 0 ≤ a) (h2 : 0 < b) : 0 ≤ a.fdiv b := by
  rw [Int.fdiv_eq_ediv_of_nonneg _ (Int.le_of_lt h2)]
  exact Int.ediv_nonneg h1 (Int.le_of_lt h2)
theorem fmod_nn {a b : Int} (h2 : 0 < b) : 0 ≤ a.fmod b := by
  rw [Int.fmod_eq_emod_of_nonneg _ (Int.le_of_lt h2)]
  exact Int.emod_nonneg _ (Int.ne_of_gt h2)
theorem fmod_lt {a b : Int} (h2 : 0 < b) : a.fmod b < b := by
  rw [Int.fmod_eq_emod_of_nonneg _ (Int.le_of_lt h2)]
  exact Int.emod_lt_of_pos _ h2
theorem shaped_ints (ns : List Int) : SeqAt.shaped (.list (ns.map PyData.int)) = true := by
  have h1 : PyData.canLayAll0 (ns.map PyData.int) = true := by
    induction ns with
    | nil => rfl
    | cons x r ih => rw [List.map_cons]; simp only [PyData.canLayAll0, PyData.canLay0, Bool.true_and]; exact ih
  have h2 : PyData.depthAll (ns.map PyData.int) = 0 := by
    induction ns with
    | nil => rfl
    | cons x r ih =>
      rw [List.map_cons]
      simp only [PyData.depthAll, PyData.depth]
      have h3 : PyData.canLayAll0 (r.map PyData.int) = true := by
        rw [List.map_cons] at h1
        simp only [PyData.canLayAll0, PyData.canLay0, Bool.true_and] at h1
        exact h1
      rw [ih h3]
      rfl
  unfold SeqAt.shaped
  simp only [PyData.canLay0, PyData.depth, h1, h2]
  rfl
theorem dp_ints {K : PySem.W.Frag} {H : Hp} : ∀ (ns : List Int), DpAll K H (ns.map V.int) (ns.map PyData.int)
  | [] => .nil
  | x :: r => .cons (.int x) (dp_ints r)
theorem eqv_nil (ns : List Int) : PyData.eqv (.list (ns.map PyData.int)) (.list []) = decide (ns = []) := by
  cases ns with
  | nil => simp only [List.map_nil, PyData.eqv, PyData.eqvAll]; rfl
  | cons x r => simp only [List.map_cons, PyData.eqv, PyData.eqvAll]; rfl
/-- a number mod a small number, and more: still small -/
theorem small_pow {x a : Int} {m k l : Int} (h1 : 0 ≤ x) (h2 : x < m) (h3 : 0 ≤ a) (h4 : a < 1000000) (hm : m ≤ 4000000000) (hk : 0 ≤ k) (hk2 : k ≤ 100000) (hl : 0 ≤ l) (hl2 : l ≤ 1000000) : (x + k * a + l).natAbs < 2 ^ 64 := by
  have h5 : k * a ≤ 100000 * 1000000 := Int.mul_le_mul hk2 (Int.le_of_lt h4) h3 (by decide)
  have h6 : 0 ≤ k * a := Int.mul_nonneg hk h3
  have h7 : (2 : Nat) ^ 64 = 18446744073709551616 := by decide
  omega
theorem small_pow2 {x a : Int} {m k l b : Int} (h1 : 0 ≤ x) (h2 : x < m) (h3 : 0 ≤ a) (h4 : a < 1000000) (hm : m ≤ 4000000000) (hk : 0 ≤ k) (hk2 : k ≤ 100000) (hl : 0 ≤ l) (hl2 : l ≤ 1000000) (hb : 0 ≤ b) (hb2 : b ≤ 1000000) :
    (x * (2 * a + b) + k * a * a + l).natAbs < 2 ^ 64 := by
  have h5 : k * a ≤ 100000 * 1000000 := Int.mul_le_mul hk2 (Int.le_of_lt h4) h3 (by decide)
  have h6 : 0 ≤ k * a := Int.mul_nonneg hk h3
  have h7 : (k * a) * a ≤ (100000 * 1000000) * 1000000 := Int.mul_le_mul h5 (Int.le_of_lt h4) h3 (by decide)
  have h8 : 0 ≤ (k * a) * a := Int.mul_nonneg h6 h3
  have h9 : x * (2 * a + b) ≤ 4000000000 * 3000000 := Int.mul_le_mul (by omega) (by omega) (by omega) (by decide)
  have h10 : 0 ≤ x * (2 * a + b) := Int.mul_nonneg h1 (by omega)
  have h11 : (2 : Nat) ^ 64 = 18446744073709551616 := by decide
  omega
theorem abs_ge {c : Int} {k : Int} (h : k ≤ (if c < 0 then -c else c)) (b : Int) (hb : 0 ≤ b) : 0 ≤ 2 * ((if c < 0 then -c else c) - k) + b := by omega
/-- the other way first: it may be wanted twice -/
theorem iteS {c A B : Prop} [Decidable c] (hb : B) (ha : c → B → A) : if c then A else B := by
  by_cases h : c
  · rw [if_pos h]
    exact ha h hb
  · rw [if_neg h]
    exact hb
theorem cell_at {ns : List Int} (hl : 0 < ns.length) (a : Int) : ∃ x, atI (ns.map V.int) (a % (ns.length : Int)) = some (.int x) := by
  have h3 := Int.emod_nonneg a (show (ns.length : Int) ≠ 0 by omega)
  have h4 := Int.emod_lt_of_pos a (show (0 : Int) < ns.length by omega)
  have il : (a % (ns.length : Int)).toNat < ns.length := by omega
  refine ⟨ns[(a % (ns.length : Int)).toNat], ?_⟩
  have e := atI_nat (xs := ns.map V.int) (j := (a % (ns.length : Int)).toNat) (v := .int (ns[(a % (ns.length : Int)).toNat])) (by rw [List.getElem?_map, List.getElem?_eq_getElem il]; rfl)
  rw [Int.toNat_of_nonneg h3] at e
  exact e
theorem cutV_ints (ns : List Int) (lo hi : Option Int) : ∃ ms : List Int, cutV (ns.map V.int) lo hi = ms.map V.int ∧ ms.length ≤ ns.length := by
  refine ⟨(ns.drop (HT.sIx (ns.map V.int).length 0 lo)).take (HT.sIx (ns.map V.int).length (ns.map V.int).length hi - HT.sIx (ns.map V.int).length 0 lo), ?_, ?_⟩
  · unfold cutV
    rw [List.map_take, List.map_drop]
  · rw [List.length_take, List.length_drop]
    omega
/-- the gauge of a script -/
def spGauge (K : PySem.W.Frag) : Sp := fun vs H Q _ => ∃ (s : Addr) (ns : List Int), vs = [.ref s] ∧ SqL K H s (ns.map V.int) ∧ ns.length ≤ 63 ∧
  ∀ (g c : Addr) (ms : List Int) (H' : Hp), H g = none → H c = none → Gau H' g c ms 0 0 → (∀ p o, H p = some o → H' p = some o) → Q (.ref g) H'
theorem get_map {α β : Type} {f : α → β} {xs : List α} {i : Nat} {y : β} (h : (xs.map f)[i]? = some y) : ∃ x, xs[i]? = some x ∧ y = f x := by
  rw [List.getElem?_map] at h
  cases e : xs[i]? with
  | none => rw [e] at h; cases h
  | some x => rw [e] at h; exact ⟨x, rfl, (Option.some.inj h).symm⟩
theorem take_snoc {α : Type} {xs : List α} {i : Nat} {x : α} (h : xs[i]? = some x) : xs.take (i + 1) = xs.take i ++ [x] := by
  rw [List.take_add_one, h]
  rfl
theorem stay {H : Hp} {p q : Addr} {o u : HO} (n : H q = none) (h : H p = some u) : upd H q o p = some u := by
  rw [upd_ne (ne_of_none h n)]
  exact h
theorem log_of {n : Nat} (h : n < 2 ^ 1900) : n.log2 < 1920 := by
  by_cases e : n = 0
  · subst e
    decide
  · exact Nat.lt_of_lt_of_le ((Nat.log2_lt e).mpr h) (by decide)
theorem small_pow200 {n : Nat} (h : n < 10 ^ 50) : n < 2 ^ 1900 := Nat.lt_of_lt_of_le h (by decide +kernel)
/-- some list, tuple or dict stands at p -/
def Box (H : Hp) (p : Addr) : Prop := (∃ xs, H p = some (.lst xs)) ∨ (∃ xs, H p = some (.tup xs)) ∨ ∃ k, H p = some (.dK k)
theorem Box.kp {H H' : Hp} {g p : Addr} (b : Box H p) (k : HG.Kp g H H') (n : p ≠ g) : Box H' p := by
  rcases b with ⟨x, h⟩ | ⟨x, h⟩ | ⟨x, h⟩
  · exact .inl ⟨x, k _ _ n h⟩
  · exact .inr (.inl ⟨x, k _ _ n h⟩)
  · exact .inr (.inr ⟨x, k _ _ n h⟩)
/-- a value that is an int, or plainly none -/
def AnyV (H : Hp) (g : Addr) (v : V) : Prop := (∃ i, v = .int i) ∨ v = .non ∨ (∃ b, v = .bl b) ∨ (∃ x, v = .str x) ∨ ∃ p, v = .ref p ∧ p ≠ g ∧ Box H p
theorem AnyV.kp {H H' : Hp} {g : Addr} {v : V} (a : AnyV H g v) (k : HG.Kp g H H') : AnyV H' g v := by
  rcases a with a | a | a | a | ⟨p, e, n, b⟩
  · exact .inl a
  · exact .inr (.inl a)
  · exact .inr (.inr (.inl a))
  · exact .inr (.inr (.inr (.inl a)))
  · exact .inr (.inr (.inr (.inr ⟨p, e, n, b.kp k n⟩)))
end HD
/-! HE: more of what a reading comes to where nothing is written. -/
namespace HE
open PySem PySem.Spec PyProof.Rows L2 Evl
section
variable {σ : L2.St} {H : Hp} {ta tb te : TE} {x y z : V} {K : PySem.W.Frag} {xs : List V} {d : PyData} {ds : List PyData}
/-- data that repr shows -/
structure Shows (d : PyData) : Prop where
  s : d.showable = true
  n : d.hasDict = false
  p : d.depth ≤ 30
  z : d.shown.length ≤ sizeLine
theorem Shows.bool (b : Bool) : Shows (.bool b) := ⟨rfl, rfl, by show 0 ≤ 30; decide, by cases b <;> decide +kernel⟩
theorem Shows.none : Shows .none := ⟨rfl, rfl, by show 0 ≤ 30; decide, by decide +kernel⟩
theorem ev_repr (ha : Ev ta σ H x) (hd : ∀ H1, Ex H H1 → Dp K H1 x d) (h : Shows d) : Ev (tCB (HG.rRepr K) (tCons ta tNil)) σ H (.str d.shown) := fun H1 e Q q =>
  ha H1 e _ fun H2 e2 => ⟨x, d, rfl, hd H2 (e.trans e2), h.s, h.n, h.p, h.z, q H2 e2⟩
theorem ev_reprL (ha : EvL ta σ H xs) (hd : ∀ H1, Ex H H1 → DpAll K H1 xs ds) (h : Shows (.list ds)) : Ev (tCB (HG.rRepr K) (tCons ta tNil)) σ H (.str (PyData.list ds).shown) := fun H1 e Q q =>
  ha H1 e _ fun p H2 _ e2 hp => ⟨.ref p, .list ds, rfl, .lst (SqL.of hp) (hd H2 (e.trans e2)), h.s, h.n, h.p, h.z, q H2 e2⟩
theorem ev_reprU (ha : EvU ta σ H xs) (hd : ∀ H1, Ex H H1 → DpAll K H1 xs ds) (h : Shows (.tuple ds)) : Ev (tCB (HG.rRepr K) (tCons ta tNil)) σ H (.str (PyData.tuple ds).shown) := fun H1 e Q q =>
  ha H1 e _ fun p H2 _ e2 hp => ⟨.ref p, .tuple ds, rfl, .tup (SqT.of hp) (hd H2 (e.trans e2)), h.s, h.n, h.p, h.z, q H2 e2⟩
/-- xs * k -/
theorem el_rep {k : Int} (ha : EvL ta σ H xs) (h1 : 0 ≤ k) (h2 : k < 1000) (h3 : xs.length ≤ 1000) : EvL (tOp rRep ta (tC (.int k))) σ H (List.replicate k.toNat xs).flatten := fun H1 e Q q =>
  ha H1 e _ fun p H2 n2 e2 hp => ⟨p, k, xs, rfl, rfl, hp, by omega, by omega, Nat.le_trans (Nat.mul_le_mul h3 (show k.toNat ≤ 1000 by omega)) (by decide +kernel), fun r hr => q r _ (fresh_back e2 hr) (e2.trans (Ex.new hr)) upd_same⟩
theorem rv_isN : RV (fun x y H Q => y = .non ∧ Q (.bl (decide (x = .non))) H) x .non H (.bl (decide (x = .non))) := fun H1 _ _ q => ⟨rfl, q H1 (Ex.refl H1)⟩
theorem rv_notN : RV (fun x y H Q => y = .non ∧ Q (.bl (!decide (x = .non))) H) x .non H (.bl (!decide (x = .non))) := fun H1 _ _ q => ⟨rfl, q H1 (Ex.refl H1)⟩
/-- f(k = v, ..) -/
theorem ev_callN {sp : Sp} {n m : Nat} {vs zs : List V} {gV : List V → List V → List V} {E : XK} {t tk : TA} (h1 : EvA t σ H vs) (h2 : EvA tk σ H zs) (l1 : vs.length = n) (l2 : zs.length = m) (hs : SpV sp (gV vs zs) H z) : Ev (tCallN n m sp gV E t tk) σ H z := fun H1 e Q q =>
  h1 H1 e _ fun H2 e2 => h2 H2 (e.trans e2) _ fun H3 e3 => ⟨l1, l2, hs H3 ((e.trans e2).trans e3) Q (fun H4 e4 => q H4 ((e2.trans e3).trans e4)) E⟩
/-- two texts alike -/
theorem et_ne {w : Str} (h1 : Ev ta σ H (.str w)) (h2 : Ev tb σ H (.str w)) : EvT (tTest (tOp rNe ta tb)) σ H false := by
  refine et_is (et_test (ev_op h1 h2 (rv_ne rfl))) ?_
  rw [decide_eq_true rfl]
  rfl
end
section
variable {X : Cx}
/-- the same with K by its name (within a comprehension) -/
theorem ix_listK (K : PySem.W.Frag) (h : X.K = K) : IxR X (rIxL K) := h ▸ ix_list
theorem ix_tupK (K : PySem.W.Frag) (h : X.K = K) : IxR X (rIxT K) := h ▸ ix_tup
theorem call_len_seqK (K : PySem.W.Frag) (h : X.K = K) : CallR X (.builtin "len") (rLenS K) := h ▸ call_len_seq
theorem op_eqDK (K : PySem.W.Frag) (h : X.K = K) (hu : X.A.units + 64 < cLine) : OpR X (compareOp .Eq) (rEqD K) := h ▸ op_eqD hu
theorem op_neDK (K : PySem.W.Frag) (h : X.K = K) (hu : X.A.units + 64 < cLine) : OpR X (compareOp .NotEq) (rNeD K) := h ▸ op_neD hu
theorem op_in_seqK (K : PySem.W.Frag) (h : X.K = K) : OpR X (compareOp .In) (rIn K false) := h ▸ op_in_seq
theorem op_notIn_seqK (K : PySem.W.Frag) (h : X.K = K) : OpR X (compareOp .NotIn) (rIn K true) := h ▸ op_notIn_seq
end
end HE
set_option maxHeartbeats 2000000
/-! HX: a caught error that stays known behind its except clause. -/
namespace HX
open PySem PySem.Spec PyProof.Rows L2
/-- at a: an error of the class cls, its dict at d -/
def errO (a : Addr) (cls : Value) (d : Option Addr) : HO := .ext fun h => ∃ oe vs, h.get? a = some oe ∧ Zc cls d oe ∧ oe.data = .fields vs
theorem errO_tup {a : Addr} {cls : Value} {d : Option Addr} {xs : List V} : errO a cls d ≠ .tup xs := fun z => HO.noConfusion z
section
variable {X : Cx} {pins : List (Addr × Obj)} {σ : L2.St} {H : Hp} {s : Shared} {a : Addr} {oe : Obj} {vs : Array Value} {cls : Value} {d : Option Addr}
/-- a pinned error is tracked from now on -/
theorem track (I : Inv X ((a, oe) :: pins) σ H s) (hz : Zc cls d oe) (hd : oe.data = .fields vs) (new : X.s_0.heap.get? a = none) (np : ∀ p ∈ X.pn ++ pins, p.1 ≠ a) : Inv X pins σ (upd H a (errO a cls d)) s := by
  obtain ⟨p1, p2, p3, p4, p5⟩ := I.pin (a, oe) (List.mem_append_right _ List.mem_cons_self)
  have up : ∀ {b : Addr} {o : HO}, H b = some o → upd H a (errO a cls d) b = some o := fun {b o} e => by
    rw [upd_ne (ne_of_none e p2)]
    exact e
  refine { ok := I.ok, os := I.os, bare := I.bare, base := ?_, loc := I.loc, cell := I.cell, free := ?_, freeC := ?_, pin := ?_, hok := ?_, len := I.len }
  · refine ⟨I.base.keep, I.base.slot, fun b o q n hx => ?_, I.base.there, fun b xs q => up (I.base.tups b xs q), fun b o u q => up (I.base.frzs b o u q), fun b ps q => ?_⟩
    · rw [upd_ne (fun z => by rw [z, new] at q; cases q)]
      exact I.base.free b o q n hx
    · obtain ⟨more, e⟩ := I.base.tbls b ps q
      exact ⟨more, up e⟩
  · rw [upd_ne (fun z => p3 z.symm)]
    exact I.free
  · intro y c e
    have nc : c ≠ a := fun z => by
      obtain ⟨v, hv⟩ := I.cell y c e
      rw [z] at hv
      obtain ⟨o, e1, e2⟩ := hv
      rw [p1] at e1
      cases e1
      exact p5 v e2
    rw [upd_ne nc]
    exact I.freeC y c e
  · intro p hp
    have hp' : p ∈ X.pn ++ (a, oe) :: pins := by
      rcases List.mem_append.mp hp with h | h
      · exact List.mem_append_left _ h
      · exact List.mem_append_right _ (List.mem_cons_of_mem _ h)
    obtain ⟨q1, q2, q3, q4, q5⟩ := I.pin p hp'
    exact ⟨q1, by rw [upd_ne (np p hp)]; exact q2, q3, q4, q5⟩
  · intro b u e
    by_cases hb : b = a
    · subst hb
      rw [upd_same] at e
      cases e
      exact ⟨⟨oe, vs, p1, hz, hd⟩, ⟨oe, p1⟩, fun h1 h2 ⟨o2, v2, g1, g2, g3⟩ k => ⟨o2, v2, k _ g1, g2, g3⟩⟩
    · rw [upd_ne hb] at e
      exact (I.hok b u e).stay (fun _ _ _ q => q) (fun _ q => up q) (fun _ _ q => up q)
/-- a tracked error's object -/
theorem err_at (I : Inv X pins σ H s) (e : H a = some (errO a cls d)) : ∃ oe vs, s.heap.get? a = some oe ∧ Zc cls d oe ∧ oe.data = .fields vs := (I.hok a _ e).1
/-- what a clause that keeps its error wishes of an error of the body -/
def wKeep (K : PySem.W.Frag) (c : Value) (i : Nat) (ts : Addr → Value → Option Addr → TS) (D : Ends) : WX := fun cls d σ H =>
  PySem.W.exmOne K cls c = some true ∧ ∀ a, H a = none → ts a cls d { nx := fun σ' H' => H' a = none → D.nx (σ'.set i none) (upd H' a (errO a cls d)), rt := fun _ _ => False, bk := fun _ _ => False, ct := fun _ _ => False } (σ.set i (some (.ref a))) H
/-- try: .. except x as n: suite; every error of the body is an x, and stays known -/
theorem ps_try_keep {x n : Str} {c : Value} {i : Nat} {body suite : List Stmt} {b₀ : Stmt} {np pos pos' : Pos} {tb : WX → TS} {ts : Addr → Value → Option Addr → TS} (hs : X.stack = X.env :: X.outer) (hf : X.env.frame = some X.env.locals) (hex : X.ex = []) (hN : X.N.Nodup)
    (hi : X.N[i]? = some n) (hln : X.env.kindOf n = some .local) (hc : Names X x c)
    (hb : ∀ (W : WX) (pn : List (Addr × Obj)) (xe : Value → Shared → Prop), Takes (X.tr pn xe) W → PassesOwn (model X.prog X.w) X.A X.env xe → PSs (X.tr pn xe) body (tb W))
    (hsu : ∀ (a : Addr) (oe : Obj) (cls : Value) (d : Option Addr) (pn : List (Addr × Obj)), Zc cls d oe → (∃ vs, oe.data = .fields vs) → PSs (X.suite a ((a, oe) :: pn)) (b₀ :: suite) (ts a cls d)) :
    PS X (.Try body [.ExceptHandler (some (.Name x np)) (some n) (b₀ :: suite) pos'] [] [] pos) (fun D σ H => tb (wKeep X.K c i ts D) D σ H) := by
  constructor
  intro pins s σ H D I h
  have ok := I.ok
  have hfr : X.A.frames = some (X.env :: X.outer) := ok.frames.trans (congrArg some hs)
  apply wpAny_Try_except
  refine wpAny_mono ((hb (wKeep X.K c i ts D) (X.pn ++ pins) (fun e s₁ => wpAny (model X.prog X.w) X.A (noteFrame e X.env) (fun _ s₂ => wpAny (model X.prog X.w) X.A (setFlight e none) (fun _ s₃ =>
    wpAny (model X.prog X.w) X.A (handleBy e X.env [.ExceptHandler (some (.Name x np)) (some n) (b₀ :: suite) pos']) (SP X pins D) X.xe s₃) X.xe s₂) X.xe s₁) (fun u s' xx => ?_) PassesOwn.looking).run [] s σ H D (I.toTry _) h) (fun f s1 hsp => ?_) (fun _ _ z => z)
  · obtain ⟨a, B, sI, pins', σ', H', cls, d, rfl, J', nb, up, sky, na, os, ag, hb1, hyes⟩ := xx
    have J : Inv X pins σ' H' sI := J'.ofTry ok
    rw [show (X.tr (X.pn ++ pins) _).stack = X.env :: X.outer from hs] at sky
    show wpAny (model X.prog X.w) X.A (noteFrame (.ref a) X.env) _ _ _
    apply Sky.land Zc.steady hfr hf sky
    intro h3 fl3 up3
    have J3 : Inv X pins σ' H' { s' with heap := h3 } := J.landed nb fl3.1 (up.trans up3) os ag
    obtain ⟨oe3, vs3, he3, hz3, hd3⟩ := fl3.there
    have nfr : a ∉ frs (X.env :: X.outer) := fun hm => by
      obtain ⟨_, o', e', hnf⟩ := fl3.2.2.1.mem hm
      rw [he3] at e'
      cases e'
      exact hnf _ hd3
    have nB : B.get? a = none := fl3.2.1
    have nI : sI.heap.get? a = none := by
      cases q : sI.heap.get? a with
      | none => rfl
      | some o =>
        have z := nb a o q (by rw [show (X.tr (X.pn ++ pins) _).stack = X.env :: X.outer from hs]; exact nfr)
        rw [nB] at z
        cases z
    have new : X.s_0.heap.get? a = none := by
      cases q : X.s_0.heap.get? a with
      | none => rfl
      | some o =>
        obtain ⟨o', z⟩ := J.base.there a o q (by rw [hex]; exact List.not_mem_nil)
        rw [nI] at z
        cases z
    have np' : ∀ p ∈ X.pn ++ pins, p.1 ≠ a := fun p hp z => by
      have y := (J.pin p hp).1
      rw [z, nI] at y
      cases y
    have nL : a ≠ X.env.locals := fun z => nfr (List.mem_filterMap.mpr ⟨X.env, List.mem_cons_self, hf.trans (congrArg some z.symm)⟩)
    have nF : a ∉ X.fs := fun hm => by
      obtain ⟨e, he, q⟩ := List.mem_filterMap.mp hm
      exact nfr (List.mem_filterMap.mpr ⟨e, List.mem_cons_of_mem _ he, q⟩)
    have S3 := J3.suite he3 hd3 na nL nF
    refine wpAny_handleBy_cons (codeAny_handlers_test ?_) (by intro y; cases y)
    have LM := PySem.W.exm_one (M := model X.prog X.w) J3.kIn (fun A Q E s k q => wpAny_typeOf_ref (k _ _ he3) (hz3.1.symm ▸ q) : PySem.W.Looks (model X.prog X.w) h3 (typeOf (.ref a)) cls) hb1
    have tst : ∀ {Q E : Value → Shared → Prop}, Q c { s' with heap := h3 } → wpAny (model X.prog X.w) (X.A.mark (some (.ref a))) (eval (.Name x np) X.env) Q E { s' with heap := h3 } := fun {Q E} q => by
      rcases hc with ⟨g1, g2, g3 | ⟨g3, g4, g5⟩⟩
      · exact ld_glob (X := X.suite a ((a, oe3) :: (X.pn ++ pins))) S3 g1 g3 q g2
      · exact ld_blt (X := X.suite a ((a, oe3) :: (X.pn ++ pins))) S3 g1 g3 g4 q g5 g2
    refine tst (LM.here ?_)
    refine codeAny_handlers_suite_as ?_
    refine HandSPX.lands_againZ fl3 (fun h4 fl4 up4 => ?_)
    have J4 : Inv X pins σ' H' { s' with heap := h4 } := J.landed nb fl4.1 ((up.trans up3).trans up4) os ag
    obtain ⟨oe4, vs4, he4, hz4, hd4⟩ := fl4.there
    refine store_ok (X := X.suite a ((a, oe4) :: (X.pn ++ pins))) (v := .ref a) (J4.suite he4 hd4 na nL nF) hN hi (.inl hln) rfl (fun s5 S5 => ?_) (.inr hln)
    refine wpAny_mono ((hsu a oe4 cls d (X.pn ++ pins) hz4 ⟨_, hd4⟩).run [] s5 _ H' _ S5 (hyes a na)) (fun f s6 hsp => ?_) (fun _ _ z => z.elim)
    cases f with
    | next =>
      obtain ⟨σ6, H6, S6, q6⟩ := hsp
      have n6 : H6 a = none := (S6.pin (a, oe4) (List.mem_append_left _ List.mem_cons_self)).2.1
      have J6 : Inv X ((a, oe4) :: pins) σ6 H6 s6 := ⟨ok, S6.os, S6.bare, S6.base, S6.loc, S6.cell, S6.free, S6.freeC, fun p hp => S6.pin p (by
        rcases List.mem_append.mp hp with m | m
        · exact List.mem_append_left _ (List.mem_cons_of_mem _ (List.mem_append_left _ m))
        · rcases List.mem_cons.mp m with rfl | m
          · exact List.mem_append_left _ List.mem_cons_self
          · exact List.mem_append_left _ (List.mem_cons_of_mem _ (List.mem_append_right _ m))), S6.hok, S6.len⟩
      exact gone_ok J6 hN hi hln (fun s7 J7 => ⟨_, _, track J7 hz4 hd4 new np', q6 n6⟩)
    | brk => exact let ⟨_, _, _, q⟩ := hsp; q.elim
    | cont => exact let ⟨_, _, _, q⟩ := hsp; q.elim
    | ret u => exact let ⟨_, _, _, _, _, q⟩ := hsp; q.elim
  · cases f with
    | next => exact let ⟨σ2, H2, J, q⟩ := hsp; wpAny_execs_nil ⟨σ2, H2, J.ofTry ok, q⟩
    | brk => exact let ⟨σ2, H2, J, q⟩ := hsp; ⟨σ2, H2, J.ofTry ok, q⟩
    | cont => exact let ⟨σ2, H2, J, q⟩ := hsp; ⟨σ2, H2, J.ofTry ok, q⟩
    | ret u => exact let ⟨v, σ2, H2, J, r, q⟩ := hsp; ⟨v, σ2, H2, J.ofTry ok, r, q⟩
/-- what a class of errors must say -/
structure ErrC (K : PySem.W.Frag) (D : Addr) : Prop where
  cl : (PySem.W.clsIn K D).isSome = true
  ga : PySem.W.findIn K (.ref D) "__getattribute__" = some (some (.builtin "BaseException.__getattribute__"))
  gg : PySem.W.findIn K (.ref D) "__getattr__" = some none
  ex : PySem.W.subIn K (.ref D) (.type "BaseException") = some true
  hd : PySem.W.hasDictIn K D = true
  hc : PySem.W.findIn K (.ref D) "__class__" = some (some (.builtin "object.__class__"))
  gs : PySem.W.specialIn K (.builtin "object.__class__") "__get__" = some (some (.builtin "getset_descriptor.__get__"))
  tk : PySem.W.takesIn K (.builtin "object.__class__") = some true
  ob : PySem.W.mroIn K D (.type "object") = some true
/-- the error at a as an instance of its class -/
theorem err_inst {D dd : Addr} {fs : List (Str × V)} (I : Inv X pins σ H s) (e : H a = some (errO a (.ref D) (some dd))) (ed : H dd = some (.xd fs)) :
    ∃ (ox od : Obj) (mA : Str → Option Value), PySem.W.InstAt s.heap a ox D (some od) ∧ (∀ f, RelO (fs.lookup f) (mA f)) ∧ ∀ y, PySem.W.lookIn y od = some (mA y) := by
  obtain ⟨ox, vs, h1, h2, h3⟩ := err_at I e
  obtain ⟨mA, hns, hr⟩ := (show ObjOk X.prog X.w H s.heap dd (.xd fs) from I.hok dd _ ed)
  obtain ⟨od, ho, hl⟩ := lookIn_ns hns
  exact ⟨ox, od, mA, ⟨h1, h2.1, by unfold PySem.W.notCls; rw [h3] <;> rfl, by rw [h2.2]; exact ho⟩, hr, hl⟩
/-- isinstance(caught, c) -/
def rIsX (K : PySem.W.Frag) : List V → Hp → VK → Prop := fun xs H Q => ∃ (a D dd : Addr) (fs : List (Str × V)) (c : V) (cv : Value) (b : Bool), xs = [.ref a, c] ∧ H a = some (errO a (.ref D) (some dd)) ∧ H dd = some (.xd fs) ∧ ErrC K D ∧ ClsV c cv ∧ PySem.W.kitOne K (.ref D) cv = some b ∧ Q (.bl b) H
def rIsU (K : PySem.W.Frag) : List V → Hp → VK → Prop := fun xs H Q => rIsi K xs H Q ∨ rIsX K xs H Q
theorem call_isU : CallR X (.builtin "isinstance") (rIsU X.K) := by
  intro pins s σ H xs us Q I r h
  rcases h with h | h
  · exact call_isi pins s σ H xs us Q I r h
  · obtain ⟨a, D, dd, fs, c, cv, b, rfl, e, ed, C, hc, hk, q⟩ := h
    obtain ⟨u1, u2, rfl, r1, r2⟩ := vals2 r
    cases (show u1 = Value.ref a from r1)
    cases hc.eq r2
    obtain ⟨ox, od, mA, J, _, _⟩ := err_inst I e ed
    exact PySem.W.kia_one (PySem.W.kitx_exc C.cl C.ga C.gg C.ex C.hc C.gs C.tk C.ob) I.kIn J hk (fun z => nomatch z) (fun tk => ⟨.bl b, H, I.tok tk, rfl, q⟩)
/-- caught.n -/
def tErr (K : PySem.W.Frag) (n : Str) (te : TE) : TE := fun σ H Q => te σ H fun x H1 => ∃ (a D dd : Addr) (fs : List (Str × V)) (v : V), x = .ref a ∧ H1 a = some (errO a (.ref D) (some dd)) ∧ H1 dd = some (.xd fs) ∧ ErrC K D ∧ PySem.W.findIn K (.ref D) n = some none ∧ fs.lookup n = some v ∧ Q v H1
theorem pe_err {e : Expr} {te : TE} {n : Str} {pos : Pos} (he : PE X e te) (hb : attributeBase e n X.env (eval e X.env) = eval e X.env := by rfl) : PE X (.Attribute e n pos) (tErr X.K n te) := by
  constructor
  intro pins s σ H Q I h
  refine attr_of hb (thn (he.run pins s σ H _ I h) (fun u s1 z => ?_))
  obtain ⟨x, H1, I1, rx, a, D, dd, fs, v, rfl, e1, e2, C, hn, l, q⟩ := z
  cases (show u = Value.ref a from rx)
  obtain ⟨ox, od, mA, J, hr, hl⟩ := err_inst I1 e1 e2
  obtain ⟨u2, hu, ru⟩ := RelO.some_of (v := v) (o := mA n) (by rw [← l]; exact hr n)
  exact HandSPX.exc_get I1.kIn J C.ga C.gg C.ex (PySem.W.findObj_own C.hd hn rfl (by rw [hl, hu])) (handed_of ru) ⟨v, H1, I1.tok _, ru, q⟩
end
/-- what an error's __init__ with the one field part promises -/
def spPart (C : Addr) : Sp := fun vs H Q _ => ∃ a v, vs = [.ref a, v] ∧ H a = some (exo a C none) ∧ ∀ dx, H dx = none → dx ≠ a → Q .non (upd (upd H dx (exd dx [("part", v)])) a (exo a C (some dx)))
/-- a class of errors with the one field part, as the top left it -/
structure Er (P : Program) (w : World) (K : PySem.W.Frag) (mg : Str → Option Value) (base : Heap) (x : Str) where
  C : Addr
  fI : Addr
  fd : FuncData
  oex : OexC K C
  ini : PySem.W.findIn K (.ref C) "__init__" = some (some (.ref fI))
  tyI : PySem.W.typeIn K (.ref fI) = some (.type "function")
  ok : FnOk P w K mg base CX0 1 fI fd ["self", "part"] (spPart C)
  b : Binds K fd ["self", "part"] []
  m : mg x = some (.ref C)
  no : PySem.W.findIn K (.ref C) "part" = some none
  err : ErrC K C
/-- an error of the class C with this part reaches E -/
def Told (E : Value → Option Addr → Hp → Prop) (C : Addr) (H : Hp) (v : V) : Prop := ∀ d H', (∀ p o, H p = some o → H' p = some o) → H d = none → H' d = some (.xd [("part", v)]) → E (.ref C) (some d) H'
theorem raise_go {E : XK} {C : Addr} {H : Hp} {v : V} (h : Told E C H v) : [v].length ≤ 1000 ∧ ∀ a, H a = none → spPart C (.ref a :: ([v] ++ [])) (upd H a (exo a C none))
    (fun u H2 => u = .non ∧ ∃ (d : Addr) (fs : List (Str × V)), H2 a = some (exo a C (some d)) ∧ H2 d = some (exd d fs) ∧ H d = none ∧ E (.ref C) (some d) (upd (del H2 a) d (.xd fs))) (fun _ _ _ => False) := by
  refine ⟨by show 1 ≤ 1000; decide, fun a na => ⟨a, v, rfl, upd_same, fun dx nd ne => ⟨rfl, dx, [("part", v)], upd_same, ?_, ?_, ?_⟩⟩⟩
  · rw [upd_ne ne, upd_same]
  · rw [upd_ne ne] at nd
    exact nd
  · have nd' : H dx = none := by rw [upd_ne ne] at nd; exact nd
    refine h dx _ (fun p o e => ?_) nd' upd_same
    have h1 : p ≠ dx := ne_of_none e nd'
    have h2 : p ≠ a := ne_of_none e na
    rw [upd_ne h1, del_ne h2, upd_ne h2, upd_ne h1, upd_ne h2]
    exact e
section
variable {X : Cx} {x : Str} {p pos pos' : Pos} {e : Expr} {te : TE} {k : Nat} {W : WX}
theorem ps_raise_er (T : Er X.prog X.w X.K X.mg X.base x) (hr : Room k X.A) (tk : Takes X W) (he : PE X e te) (hk : 2 ≤ k := by decide) (hc : X.calm = true := by rfl) (hg : Gl X x := by rfl) (n1 : (x == ("__debug__" : Str)) = false := by decide)
    (n2 : starEach [e] X.env = (false, eval e X.env) :: starEach [] X.env := by rfl) : PS X (.Raise (some (.Call (.Name x p) [e] [] pos)) none pos') (fun _ σ H => tMkO T.C (spPart T.C) [] (tCons te tNil) σ H fun cls d H' => W cls d σ H') :=
  ps_raise (pos := pos') hc tk (pmk_oex (pos := pos) (p := p) T.oex T.ini T.tyI T.ok (hr.mono hk) T.b .nil HG.p0 hg T.m (pa_cons he pa_nil n2) n1 n2 (by rfl))
end
end HX
/-! HY: an own class of errors with the one field part, from its row of facts. -/
namespace HX
open PySem PySem.Spec PyProof.Rows L2
theorem exm_of {K : PySem.W.Frag} {C S : Addr} (h1 : PySem.W.subIn K (.ref S) (.type "BaseException") = some true) (h2 : PySem.W.isClsIn K S = true) (h3 : PySem.W.typeIn K (.ref S) = some (.type "type")) (h4 : PySem.W.subIn K (.ref C) (.ref S) = some true) :
    PySem.W.exmOne K (.ref C) (.ref S) = some true := by
  have e1 : (PySem.W.subIn K (.ref S) (.type "BaseException") == some true) = true := by rw [h1] <;> rfl
  have e2 : ((PySem.W.clsIn K S).isSome && PySem.W.typeIn K (.ref S) == some (.type "type")) = true := by
    have h2' : (PySem.W.clsIn K S).isSome = true := h2
    rw [h2', h3] <;> rfl
  show (if (PySem.W.subIn K (.ref S) (.type "BaseException") == some true) = true then (if ((PySem.W.clsIn K S).isSome && PySem.W.typeIn K (.ref S) == some (.type "type")) = true then PySem.W.subIn K (.ref C) (.ref S) else none) else none) = some true
  rw [if_pos e1, if_pos e2]
  exact h4
theorem kit_self {K : PySem.W.Frag} {C : Addr} : PySem.W.kitOne K (.ref C) (.ref C) = some true := if_pos (beq_self_eq_true _)
/-- what k_is tells of the class -/
structure Row (K : PySem.W.Frag) (C fI : Addr) : Prop where
  cls : ∃ nm q N bs bm sn sub ab col dd k0 k1 k2 k3 k5, K.lookup C = some (excClassObj nm q C N bs bm true sn sub ab col dd k0 k1 k2 k3 k5 "ValueError.__new__") ∧ PySem.HandSPX.refsVE bm = true
  sa : PySem.W.findIn K (.ref C) "__setattr__" = some (some (.builtin "object.__setattr__"))
  ga : PySem.W.findIn K (.ref C) "__getattribute__" = some (some (.builtin "BaseException.__getattribute__"))
  gg : PySem.W.findIn K (.ref C) "__getattr__" = some none
  hc : PySem.W.findIn K (.ref C) "__class__" = some (some (.builtin "object.__class__"))
  no : PySem.W.findIn K (.ref C) "part" = some none
  ini : PySem.W.findIn K (.ref C) "__init__" = some (some (.ref fI))
  tyI : PySem.W.typeIn K (.ref fI) = some (.type "function")
  exC : PySem.W.subIn K (.ref C) (.type "BaseException") = some true
  tyC : PySem.W.typeIn K (.ref C) = some (.type "type")
  kC : PySem.W.keepIn K (.ref C) = true
  hd : PySem.W.hasDictIn K C = true
  cl : PySem.W.isClsIn K C = true
  ob : PySem.W.subIn K (.ref C) (.type "object") = some true
  gs : PySem.W.specialIn K (.builtin "object.__class__") "__get__" = some (some (.builtin "getset_descriptor.__get__"))
  tk : PySem.W.takesIn K (.builtin "object.__class__") = some true
theorem Row.err {K : PySem.W.Frag} {C fI : Addr} (R : Row K C fI) : ErrC K C := ⟨R.cl, R.ga, R.gg, R.exC, R.hd, R.hc, R.gs, R.tk, R.ob⟩
theorem Row.oex {K : PySem.W.Frag} {C fI : Addr} (R : Row K C fI) : OexC K C := ⟨R.cls, R.sa, R.exC, R.tyC, R.kC⟩
def Row.er {P : Program} {w : World} {K : PySem.W.Frag} {mg : Str → Option Value} {base : Heap} {x : Str} {C fI : Addr} {fd : FuncData} (R : Row K C fI) (m : mg x = some (.ref C)) (b : Binds K fd ["self", "part"] []) (ok : FnOk P w K mg base CX0 1 fI fd ["self", "part"] (spPart C)) : Er P w K mg base x :=
  ⟨C, fI, fd, R.oex, R.ini, R.tyI, ok, b, m, R.no, R.err⟩
end HX
/-! HR: values, heaps that grow, comprehensions over them, texts of few signs. -/
namespace HR
open PySem PySem.Spec PyProof.Rows L2 SX
/-! ### values -/
def IsI (K : PySem.W.Frag) (H : Hp) (v : V) (r : Bool) : Prop := ∃ t b1 b2, TyX K H v t ∧ PySem.W.kitOne K t (.type "int") = some b1 ∧ PySem.W.kitOne K t (.type "bool") = some b2 ∧ r = (b1 && !b2)
/-- an int, None, a bool, a text, a list, a tuple, a dict -/
def PV (H : Hp) (v : V) : Prop := (∃ i, v = .int i) ∨ v = .non ∨ (∃ b, v = .bl b) ∨ (∃ x, v = .str x) ∨ ∃ p, v = .ref p ∧ HD.Box H p
def Grow (H H' : Hp) : Prop := ∀ p o, H p = some o → H' p = some o
theorem Grow.new {H : Hp} {p : Addr} {o : HO} (n : H p = none) : Grow H (upd H p o) := fun q u e => HD.stay n e
theorem Grow.trans {H H1 H2 : Hp} (a : Grow H H1) (b : Grow H1 H2) : Grow H H2 := fun p o e => b p o (a p o e)
theorem PV.grow {H H' : Hp} {v : V} (a : PV H v) (k : Grow H H') : PV H' v := by
  rcases a with a | a | a | a | ⟨p, e, ⟨x, h⟩ | ⟨x, h⟩ | ⟨x, h⟩⟩
  · exact .inl a
  · exact .inr (.inl a)
  · exact .inr (.inr (.inl a))
  · exact .inr (.inr (.inr (.inl a)))
  · exact .inr (.inr (.inr (.inr ⟨p, e, .inl ⟨x, k _ _ h⟩⟩)))
  · exact .inr (.inr (.inr (.inr ⟨p, e, .inr (.inl ⟨x, k _ _ h⟩)⟩)))
  · exact .inr (.inr (.inr (.inr ⟨p, e, .inr (.inr ⟨x, k _ _ h⟩)⟩)))
def isIntV : V → Bool
  | .int _ => true
  | _ => false
theorem isI_of {K : PySem.W.Frag} {H : Hp} {v : V} (a : PV H v) : IsI K H v (isIntV v) := by
  rcases a with ⟨i, rfl⟩ | rfl | ⟨b, rfl⟩ | ⟨x, rfl⟩ | ⟨p, rfl, ⟨x, h⟩ | ⟨x, h⟩ | ⟨x, h⟩⟩
  · exact ⟨_, true, false, .base (.int i), kit_ty (by decide +kernel), kit_ty (by decide +kernel), rfl⟩
  · exact ⟨_, false, false, .base .non, kit_ty (by decide +kernel), kit_ty (by decide +kernel), rfl⟩
  · exact ⟨_, true, true, .base (.bl b), kit_ty (by decide +kernel), kit_ty (by decide +kernel), rfl⟩
  · exact ⟨_, false, false, .base (.str x), kit_ty (by decide +kernel), kit_ty (by decide +kernel), rfl⟩
  · exact ⟨_, false, false, .base (.lst h), kit_ty (by decide +kernel), kit_ty (by decide +kernel), rfl⟩
  · exact ⟨_, false, false, .base (.tup h), kit_ty (by decide +kernel), kit_ty (by decide +kernel), rfl⟩
  · exact ⟨_, false, false, .base (.dK h), kit_ty (by decide +kernel), kit_ty (by decide +kernel), rfl⟩
/-- a list or a tuple -/
def SeqV (H : Hp) (v : V) : Prop := ∃ p xs, v = .ref p ∧ (H p = some (.lst xs) ∨ H p = some (.tup xs))
theorem seq_or {H : Hp} {v : V} (a : PV H v) : SeqV H v ∨ ¬ SeqV H v := Classical.em _
theorem kit_seq {K : PySem.W.Frag} {H : Hp} {v : V} (a : PV H v) : ∃ t b, TyX K H v t ∧ PySem.W.kitAny K t [.type "list", .type "tuple"] = some b ∧ (b = true ↔ SeqV H v) := by
  have no : ∀ {t : Value}, PySem.W.kitOne K t (.type "list") = some false → PySem.W.kitOne K t (.type "tuple") = some false → PySem.W.kitAny K t [.type "list", .type "tuple"] = some false := fun h1 h2 =>
    kitAny_cons h1 (fun _ => kitAny_cons h2 (fun _ => rfl) (fun z => nomatch z)) (fun z => nomatch z)
  rcases a with ⟨i, rfl⟩ | rfl | ⟨b, rfl⟩ | ⟨x, rfl⟩ | ⟨p, rfl, ⟨x, h⟩ | ⟨x, h⟩ | ⟨x, h⟩⟩
  · exact ⟨_, false, .base (.int i), no (kit_ty (by decide +kernel)) (kit_ty (by decide +kernel)), ⟨fun z => (nomatch z), fun ⟨_, _, e, _⟩ => (nomatch e)⟩⟩
  · exact ⟨_, false, .base .non, no (kit_ty (by decide +kernel)) (kit_ty (by decide +kernel)), ⟨fun z => (nomatch z), fun ⟨_, _, e, _⟩ => (nomatch e)⟩⟩
  · exact ⟨_, false, .base (.bl b), no (kit_ty (by decide +kernel)) (kit_ty (by decide +kernel)), ⟨fun z => (nomatch z), fun ⟨_, _, e, _⟩ => (nomatch e)⟩⟩
  · exact ⟨_, false, .base (.str x), no (kit_ty (by decide +kernel)) (kit_ty (by decide +kernel)), ⟨fun z => (nomatch z), fun ⟨_, _, e, _⟩ => (nomatch e)⟩⟩
  · exact ⟨_, true, .base (.lst h), kitAny_cons (kit_ty (r := true) (by decide +kernel)) (fun z => nomatch z) (fun _ => rfl), ⟨fun _ => ⟨p, x, rfl, .inl h⟩, fun _ => rfl⟩⟩
  · exact ⟨_, true, .base (.tup h), kitAny_cons (kit_ty (r := false) (by decide +kernel)) (fun _ => kitAny_cons (kit_ty (r := true) (by decide +kernel)) (fun z => nomatch z) (fun _ => rfl)) (fun z => nomatch z), ⟨fun _ => ⟨p, x, rfl, .inr h⟩, fun _ => rfl⟩⟩
  · refine ⟨_, false, .base (.dK h), no (kit_ty (by decide +kernel)) (kit_ty (by decide +kernel)), ⟨fun z => (nomatch z), fun ⟨q, _, e, h2⟩ => ?_⟩⟩
    cases e
    rw [h] at h2
    rcases h2 with h2 | h2 <;> cases h2

theorem Grow.refl {H : Hp} : Grow H H := fun _ _ h => h
/-- the list at D holds the first i of f; all that was stays -/
def LcI (H1 : Hp) (D : Addr) (f : List V) (i : Nat) (H : Hp) : Prop := Grow H1 H ∧ H D = some (.lst (f.take i))
theorem lc_start {H1 : Hp} {D : Addr} {f : List V} (n : H1 D = none) : LcI H1 D f 0 (upd H1 D (.lst [])) := ⟨Grow.new n, upd_same⟩
theorem lc_fin {H1 H H4 : Hp} {D : Addr} {f : List V} {i : Nat} {y : V} (n : H1 D = none) (a : LcI H1 D f i H) (g : Grow H H4) (hy : f[i]? = some y) (hl : f.length ≤ 1000) :
    ∃ acc, H4 D = some (.lst acc) ∧ acc.length < sizeLine ∧ LcI H1 D f (i + 1) (upd H4 D (.lst (acc ++ [y]))) := by
  refine ⟨_, g _ _ a.2, ?_, fun q o e => ?_, ?_⟩
  · rw [List.length_take]
    exact small1000 (by omega)
  · rw [upd_ne (ne_of_none e n)]
    exact g _ _ (a.1 q o e)
  · rw [upd_same]
    rw [HD.take_snoc hy]
theorem lc_end {H1 H : Hp} {D : Addr} {f : List V} {i : Nat} (a : LcI H1 D f i H) (h : f.length ≤ i) : Grow H1 H ∧ H D = some (.lst f) := by
  refine ⟨a.1, ?_⟩
  have e := a.2
  rw [List.take_of_length_le h] at e
  exact e
section
variable {X : Cx}
/-- text * k -/
theorem op_mul_str : OpR X (binaryOp .Mult) (fun x y H Q => ∃ z k, x = .str z ∧ y = .int k ∧ MulOk z k ∧ Q (.str (Txt.mul z k)) H) := by
  intro pins s σ H x y v u Q I rx ry h
  obtain ⟨z, k, rfl, rfl, hz, q⟩ := h
  obtain ⟨t, rfl⟩ := rx
  obtain ⟨t', rfl⟩ := ry
  exact SB.mul hz fun t' tk => ⟨.str _, H, I.tok _, ⟨_, rfl⟩, q⟩
end
theorem mul_ok {c : Nat} {k : Nat} (h : k ≤ 1000) : MulOk (S [c]) (k : Int) := by
  have e : (S [c]).length = 1 := rfl
  refine ⟨by rw [Bool.or_eq_false_iff]; exact ⟨decide_eq_false (by omega), decide_eq_false (by omega)⟩, fun h1 _ => ?_, fun _ _ => ?_⟩
  · rw [e]
    have : (2 ^ 63 - 1 : Int) / (k : Int) ≥ 1 := Int.le_ediv_of_mul_le (by omega) (by omega)
    show ¬ ((1 : Int) > _)
    omega
  · rw [e]
    show PySem.Builtin.Str.tooLong (1 * ((k : Int)).toNat) = false
    exact decide_eq_false (by rw [Int.toNat_natCast, Nat.one_mul]; have := sizeLine_eq; omega)
theorem fold_cat : ∀ (n : Nat) (c : Nat) (a : Array Nat), (List.replicate n #[c]).foldl (· ++ ·) a = a ++ (List.replicate n c).toArray
  | 0, c, a => by simp
  | n + 1, c, a => by
    rw [List.replicate_succ, List.foldl_cons, fold_cat n c (a ++ #[c]), List.replicate_succ]
    apply Array.ext'
    simp
theorem mul_S {c : Nat} (k : Nat) : Txt.mul (S [c]) (k : Int) = S (List.replicate k c) := by
  unfold Txt.mul
  by_cases h : (k : Int) < 1
  · rw [if_pos h]
    have e : k = 0 := by omega
    subst e
    rfl
  · rw [if_neg h]
    by_cases h1 : k = 1
    · subst h1
      rfl
    · have e : ((k : Int) == 1 || (S [c]).length == 0) = false := by
        have e1 : (S [c]).length = 1 := rfl
        rw [e1]
        simp
        omega
      rw [if_neg (by rw [e]; exact Bool.false_ne_true), Int.toNat_natCast]
      show (⟨(List.replicate k #[c]).foldl (· ++ ·) #[]⟩ : Str) = S (List.replicate k c)
      rw [fold_cat]
      simp [S]
end HR
set_option maxHeartbeats 4000000
/-! HC: a set of ints, told by a comprehension; its len. -/
namespace HC
open PySem PySem.Spec PyProof.Rows L2 HR PpSet
section
variable {X : Cx} {elt tg iter : Expr} {ifs : List Expr} {scope : Scope} {own : List (Str × Nat)} {pos : Pos} {wi : TI} {g : TG} {tt : TT} {te : TE} {Q : VK} {σ : L2.St} {pins : List (Addr × Obj)}
/-- the turns of a comprehension that adds ints to the set D -/
def Turns (w : World) (J : It) (D : Addr) (Q : VK) (g : TG) (tt : TT) (te : TE) (vs : List Nat) (σ : L2.St) (W : Nat → Nat → Hp → Prop) : Prop := ∀ i m H', W i m H' → (J.stop i H' ∧ Q (.ref D) H') ∨
    (J.go i H' ∧ ∃ Go : Hp → Prop, (∀ H2, Go H2 → ∃ m2, m2 < m ∧ W (i + 1) m2 H2) ∧ ∀ x H2, J.yld i H' x H2 → g x (wipe σ vs) H2 fun σ3 H3 => wipe σ3 vs = wipe σ vs ∧
      tt σ3 H3 fun b H4 => if b = true then te σ3 H4 fun y H5 => rSAdd w (.ref D) [y] H5 fun _ H6 => Go H6 else Go H4)
/-- {e for .. in ..}, each e an int: D is the new set -/
def tSetC (w : World) (wi : TI) (g : TG) (tt : TT) (te : TE) (vs : List Nat) : TE := fun σ H Q => wi σ H fun J H1 => ∀ D, H1 D = none → ∃ W : Nat → Nat → Hp → Prop, (∃ m, W 0 m (upd H1 D (SetO w D (fun _ => false) 0))) ∧ Turns w J D Q g tt te vs σ W
theorem set_loop {fp : List Addr} {s3 s4 : Shared} {H3 : Hp} {D ia : Addr} {ce : Env} {J : It} {tn : Nat → Heap → Prop} {W : Nat → Nat → Hp → Prop} {m0 : Nat} {R : Result → Shared → Prop} (calm : X.calm = true) (loc : ce.locals = s3.heap.objs.size)
    (I3 : Inv X pins σ H3 s3) (T : Turn X.prog X.w X.K tg J fp ia tn) (free : ∀ b ∈ fp, FpOk X pins H3 b) (I4 : Inv (X.blk s3 H3 scope ce fp) [] (wipe σ (own.map (·.2))) H3 s4) (t4 : tn 0 s4.heap) (w0 : W 0 m0 H3) (turn : Turns X.w J D Q g tt te (own.map (·.2)) σ W)
    (pg : PG (X.blk s3 H3 scope ce fp) tg g) (pt : PTs (X.blk s3 H3 scope ce fp) ifs tt) (pe : PE (X.blk s3 H3 scope ce fp) elt te)
    (done : ∀ s' m H', Inv X pins σ H' s' → Q (.ref D) H' → s'.heap.Ns s3.heap.objs.size m → FpOk X pins H' s3.heap.objs.size → R (.ok .next) s') :
    codeAny (model X.prog X.w) X.A (.compLoop (.SetComp elt [⟨tg, iter, ifs, 0⟩] scope pos) 0 (.ref ia) (.ref D) ce) R s4 := by
  -- the iterator's own objects stay loose within the block
  have loose : ∀ (σ' : L2.St) (H' : Hp) (s' : Shared), Inv (X.blk s3 H3 scope ce fp) [] σ' H' s' → (∀ b ∈ fp, H' b = none) → ∀ b ∈ fp, FpOk (X.blk s3 H3 scope ce fp) [] H' b := by
    intro σ' H' s' I' no b hb
    have e1 := I'.ok.exf b hb
    refine ⟨no b hb, e1.1, I'.ok.exfs b hb, .inl hb, e1.2, ?_⟩
    intro p hp
    exact absurd (show p ∈ ([] : List (Addr × Obj)) ++ [] from hp) List.not_mem_nil
  have none3 : ∀ b ∈ fp, H3 b = none := fun b hb => (free b hb).1
  apply compLoopS_any (fun n s' => ∃ i H', Inv (X.blk s3 H3 scope ce fp) [] (wipe σ (own.map (·.2))) H' s' ∧ tn i s'.heap ∧ (∀ b ∈ fp, H' b = none) ∧ W i n H') _ m0 ⟨0, H3, I4, t4, none3, w0⟩
  intro n s5 z
  obtain ⟨i, H5, I5, t5, no5, w5⟩ := z
  cases turn i n H5 w5 with
  | inl a =>
    apply thnF (T.done (X.blk s3 H3 scope ce fp) rfl rfl rfl calm i [] s5 _ H5 (fun _ _ => False) I5 (loose _ _ _ I5 no5) t5 a.1)
    rintro _ s6 ⟨rfl, I6⟩
    obtain ⟨m, ns, _⟩ := I6.loc
    have ns' : s6.heap.Ns ce.locals m := ns
    have lo : H5 ce.locals = none := I6.free
    rw [loc] at ns' lo
    have back : Inv X pins σ H5 s6 := I3.call' (ch := fp) I6.os I6.base I6.hok I6.bare fun b hb => let f := free b hb; ⟨f.2.2.2.1, f.2.1, f.2.2.2.2.1, f.2.2.2.2.2⟩
    exact done s6 m H5 back a.2 ns' (I3.fpOk (Nat.le_refl _) lo)
  | inr a =>
    obtain ⟨go, Go, less, step⟩ := a
    apply thnF (T.item (X.blk s3 H3 scope ce fp) rfl rfl rfl calm i [] s5 _ H5 (fun _ _ => False) I5 (loose _ _ _ I5 no5) t5 go)
    rintro _ s6 ⟨u, rfl, h6⟩
    apply thnF h6
    rintro _ s7 ⟨x, H7, I7, r7, y7, t7, no7⟩
    have there := T.obj _ _ t7
    apply thnF (pg.run _ s7 _ H7 x u _ (I7.pinned (loose _ _ _ I7 no7) there) r7 (step x H7 y7))
    rintro _ s8 ⟨σ8, H8, I8, wp, q8⟩
    apply thnF (pt.run _ s8 σ8 H8 _ I8 q8)
    rintro b s9 ⟨H9, I9, q9⟩
    -- at the turn's end the block is as at its begin
    have next : ∀ (s' : Shared) (H' : Hp), Inv (X.blk s3 H3 scope ce fp) ([] ++ pinsAt fp s7.heap) σ8 H' s' → Go H' → ∃ m, m < n ∧ ∃ i H', Inv (X.blk s3 H3 scope ce fp) [] (wipe σ (own.map (·.2))) H' s' ∧ tn i s'.heap ∧ (∀ b ∈ fp, H' b = none) ∧ W i m H' := by
      intro s' H' I' hg
      obtain ⟨m2, lt, w2⟩ := less H' hg
      have pinned : ∀ b ∈ fp, ∀ o, s7.heap.get? b = some o → s'.heap.get? b = some o ∧ H' b = none := by
        intro b hb o e
        have p := I'.pin (b, o) (List.mem_append_right _ (List.mem_append_right _ (mem_pinsAt hb e)))
        exact ⟨p.1, p.2.1⟩
      have len : (wipe σ (own.map (·.2))).length = σ8.length := by
        rw [← wp, wipe_length]
      have I2 := (I'.unpinned (pins := [])).weak len fun j v e => by
        rw [← wp] at e
        exact (wipe_some e).1
      refine ⟨m2, lt, i + 1, H', I2, ?_, ?_, w2⟩
      · apply T.keep _ _ _ t7
        intro b hb o e
        exact (pinned b hb o e).1
      · intro b hb
        obtain ⟨o, e, _⟩ := there b hb
        exact (pinned b hb o e).2
    cases b with
    | false => exact next s9 H9 I9 q9
    | true =>
      show wpAny _ _ _ _ _ _
      apply thnF (pe.run _ s9 σ8 H9 _ I9 q9)
      rintro z s10 ⟨v, H10, I10, r10, qa⟩
      refine thnF (mt_sadd (X := X.blk s3 H3 scope ce fp) _ s10 σ8 H10 (.ref D) [v] (.ref D) [z] _ I10 rfl (.cons r10 .nil) qa) ?_
      rintro _ s11 ⟨_, H11, I11, _, q11⟩
      exact next s11 H11 I11 q11
theorem pe_setC (calm : X.calm = true) (nd : X.N.Nodup) (it : PI X tg iter wi) (B : BlkOk X.N X.env.scope scope own)
    (pg : ∀ s H C cl fp, PG (X.blk s H scope (compEnvC scope cl C X.env) fp) tg g) (pt : ∀ s H C cl fp, PTs (X.blk s H scope (compEnvC scope cl C X.env) fp) ifs tt) (pe : ∀ s H C cl fp, PE (X.blk s H scope (compEnvC scope cl C X.env) fp) elt te)
    (fold : ∀ x, foldedSetIterable iter X.env x = pure x := by intro _; rfl) : PE X (.SetComp elt [⟨tg, iter, ifs, 0⟩] scope pos) (tSetC X.w wi g tt te (own.map (·.2))) := by
  constructor
  intro pins s σ H Q I want
  have cells : ∀ y ∈ scope.names, y.2 = .free → ∃ c, X.env.cells.lookup y.1 = some c := fun y hy e => (B.free y hy e).elim (fun k => I.ok.has _ (.inl k)) fun k => I.ok.has _ (.inr k)
  have first := it.run pins s σ H _ I want
  rw [eval_SetComp]
  apply wpAny_comprehension_free (use := none) (cl := cloFrom X.env.cells scope.names []) rfl fold (closure_ok cells) B.kind (fun y hy e => by rw [B.uniq y hy, e])
  refine thn first fun xv s1 hx => thn hx fun itv s2 z => ?_
  obtain ⟨ia, fp, tn, J, H1, rfl, I1, T, t1, f1, q⟩ := z
  apply newSet_ok
  apply newEnv_comp
  obtain ⟨W, ⟨m0, w0⟩, turn⟩ := q s2.heap.objs.size (I1.hok.fresh (Nat.le_refl _))
  have small : ∀ b ∈ fp, b < s2.heap.objs.size := fun b hb => by
    obtain ⟨o, e, _⟩ := T.obj _ _ t1 b hb
    exact Heap.lt_size e
  have I3 : Inv X pins σ (upd H1 s2.heap.objs.size (SetO X.w s2.heap.objs.size (fun _ => false) 0)) { s2 with heap := s2.heap.push { cls := .type "set", dict := none, data := .set #[] 0 (.fresh 0 0 (!X.w.params.followText "set-order")) } } :=
    I1.laid (t' := s2.toks) (fun b o e => Heap.get?_push_of_some _ e) (Nat.le_refl _) (setO_new (setR_fresh X.w))
  have f3 : ∀ b ∈ fp, FpOk X pins (upd H1 s2.heap.objs.size (SetO X.w s2.heap.objs.size (fun _ => false) 0)) b := fun b hb => by
    have f := f1 b hb
    exact ⟨by rw [upd_ne (Nat.ne_of_lt (small b hb))]; exact f.1, f.2⟩
  have I4 := block_start I3 B nd fun b hb => ⟨f3 b hb, by rw [Heap.size_push]; exact Nat.lt_succ_of_lt (small b hb)⟩
  have t3 : tn 0 (s2.heap.push { cls := .type "set", dict := none, data := .set #[] 0 (.fresh 0 0 (!X.w.params.followText "set-order")) }) := T.keep _ _ _ t1 fun b _ o e => Heap.get?_push_of_some _ e
  have t4 := T.keep _ _ (pushCells ((s2.heap.push { cls := .type "set", dict := none, data := .set #[] 0 (.fresh 0 0 (!X.w.params.followText "set-order")) }).push { cls := .type "dict", data := .dict #[] }) scope.names) t3 fun b _ o e => pushCells_keeps _ _ _ _ (Heap.get?_push_of_some _ e)
  have whole := set_loop (ifs := ifs) (pos := pos) (iter := iter) (m0 := m0) (R := compPost (model X.prog X.w) X.A X.xe none (EP X pins σ Q) (.ref s2.heap.objs.size) _) calm rfl I3 T f3 I4 t4 w0 turn (pg _ _ _ _ _) (pt _ _ _ _ _) (pe _ _ _ _ _) fun s' m H' I' q' ns f => ⟨m, ns, fun h2 same => by
      obtain ⟨k0, k1, k2, k3, k4, k5⟩ := f
      exact ⟨.ref s2.heap.objs.size, H', I'.turned (t' := s'.toks) (fun b o hb e => (same.2 b hb).trans e) k0 k1 k3 k4 k5, rfl, q'⟩⟩
  exact codeAny_compStart_set whole (T.self X.A 0 _ _ _ t4 whole)
/-- len of such a set -/
theorem call_lenC : CallR X (.builtin "len") (fun xs H Q => ∃ a S n, xs = [.ref a] ∧ H a = some (SetO X.w a S n) ∧ n ≤ sizeLine ∧ Q (.int (n : Nat)) H) := by
  intro pins s σ H xs us Q I r h
  obtain ⟨a, S, n, rfl, ha, hn, q⟩ := h
  obtain ⟨u, rfl, r1⟩ := vals1 r
  cases (show u = Value.ref a from r1)
  obtain ⟨o, es, ep, t, ho, hex, hd, _, _, _, _, hf, hs, _, _⟩ := setO_get I ha
  have sz := sizeLine_eq
  exact call_len_set ho hex hd hf (by rw [hs]; omega) ⟨.int (n : Nat), H, I.tok _, ⟨_, by rw [hs]⟩, q⟩
end
end HC
/-! zip of two and of three texts -/
namespace HZ
open PySem PySem.Spec PyProof.Rows L2 HR
theorem iteT' {b : Bool} {A B : Prop} (e : b = true) (h : A) : if b = true then A else B := by rw [e]; exact L2.iteT h
theorem iteF' {b : Bool} {A B : Prop} (e : b = false) (h : B) : if b = true then A else B := by rw [e]; exact L2.iteF h
theorem ix_kdictK {X : Cx} (K : PySem.W.Frag) (w : World) (h : X.K = K) (hw : X.w = w) : IxR X (rIxD K w) := h ▸ hw ▸ ix_kdict
theorem pg_tupK {X : Cx} (K : PySem.W.Frag) (hK : X.K = K) {es : List Expr} {k : Nat} {t : TGs} {n : Nat} {pos : Pos} (hc : X.calm = true) (h : PGs X es t)
    (hn : (assignEach es X.env).length = n := by rfl) (hst : (assignEach es X.env).findIdx? (·.1) = none := by rfl) : PG X (.Tuple es k pos) (gTup K n t) := hK ▸ pg_tup hc h hn hst
/-- a sign of a text, as a value -/
def sgV (x : Str) (i : Nat) : Option V := (x.cps[i]?).map fun c => V.str ⟨#[c]⟩
/-- n turns; at each a new tuple of what f tells -/
def Itf (n : Nat) (f : Nat → List V → Prop) : It :=
  ⟨fun i _ => i < n, fun i H v H' => ∃ T l, v = .ref T ∧ H T = none ∧ H' = upd H T (.tup l) ∧ f i l, fun i _ => i = n⟩
theorem walk_f {n : Nat} {f : Nat → List V → Prop} : Walk (Itf n f) n (fun _ => True) (Itf n f).yld := ⟨fun _ _ h _ => h, fun _ _ => rfl, fun _ _ _ _ _ _ y => y⟩
theorem turn_of {P : Program} {w : World} {K : PySem.W.Frag} {tg : Expr} {it : Addr} {fp wr : List Addr} {n : Nat} {f : Nat → List V → Prop} {Y : Nat → Heap → Value → Heap → Prop} {St : Nat → Heap → Prop}
    (W : ∀ A : Around, A.handled = none → GoesN P w A tg it fp wr n Y St) (mem : it ∈ fp) (obj : ∀ i h, St i h → ∀ b ∈ fp, ∃ o, h.get? b = some o ∧ ∀ v, o.data ≠ .cell v)
    (self : ∀ (A : Around) (i : Nat) (s : Shared) (Q : Value → Shared → Prop) (E : Value → Shared → Prop), St i s.heap → Q (.ref it) s → wpAny (model P w) A (pyIter (.ref it)) Q E s)
    (keep : ∀ i h h', St i h → (∀ b ∈ fp, ∀ o, h.get? b = some o → h'.get? b = some o) → St i h') (sub : ∀ b ∈ wr, b ∈ fp)
    (hY : ∀ i h0 v h, i < n → Y i h0 v h → ∃ T l us, v = .ref T ∧ h0.objs.size ≤ T ∧ f i l ∧ l.length ≤ 3 ∧ Vals l us ∧ h.IsTuple T us.toArray) :
    Turn P w K tg (Itf n f) fp it St where
  mem := mem
  obj := obj
  keep := keep
  item := by
    intro X hP hw hK hc i pins s σ H E I hf st hg
    subst hP hw hK
    have G := W X.A (I.ok.hd hc)
    refine wpAny_mono (G.goes i s (fun u s2 => ∃ x H', Inv X pins σ H' s2 ∧ RelV x u ∧ (Itf n f).yld i H x H' ∧ St (i + 1) s2.heap ∧ ∀ b ∈ fp, H' b = none) E hg st fun v h' tk hy st' hk _ => ?_) (fun r s1 q => q) (fun e s1 q => q)
    obtain ⟨T, l, us, rfl, hT, hfl, hl, rv, hI⟩ := hY i s.heap v h' hg hy
    have hn : H T = none := I.hok.fresh hT
    have new : ObjOk X.prog X.w (upd H T (.tup l)) h' T (.tup l) := by
      refine ⟨by show l.length ≤ sizeLine; have := sizeLine_eq; omega, us, rv, hI⟩
    have I1 : Inv X pins σ (upd H T (.tup l)) { s with heap := h', toks := tk } := I.turnedNew (t' := tk) (ch := fp) (fun b o hb e => hk b o (fun z => hb (sub b z)) e) hf hT new
    refine ⟨.ref T, _, I1, rfl, ⟨T, l, rfl, hn, rfl, hfl⟩, st', fun b hb => ?_⟩
    obtain ⟨o, e, _⟩ := obj i s.heap st b hb
    rw [upd_ne (Nat.ne_of_lt (Nat.lt_of_lt_of_le (Heap.lt_size e) hT))]
    exact (hf b hb).1
  done := by
    intro X hP hw hK hc i pins s σ H E I hf st hg
    subst hP hw hK
    obtain rfl : i = n := hg
    have G := W X.A (I.ok.hd hc)
    refine wpAny_mono (G.stops s (fun s2 => Inv X pins σ H s2) E st fun h' tk hk _ => ?_) (fun r s1 q => q) (fun e s1 q => q)
    exact I.turnedL (t' := tk) (ch := fp) (fun b o hb e => hk b o (fun z => hb (sub b z)) e) hf
  self := self
def two (x y : Str) (i : Nat) (l : List V) : Prop := ∃ c d, x.cps[i]? = some c ∧ y.cps[i]? = some d ∧ l = [.str ⟨#[c]⟩, .str ⟨#[d]⟩]
def three (x y z : Str) (i : Nat) (l : List V) : Prop := ∃ c d e, x.cps[i]? = some c ∧ y.cps[i]? = some d ∧ z.cps[i]? = some e ∧ l = [.str ⟨#[c]⟩, .str ⟨#[d]⟩, .str ⟨#[e]⟩]
abbrev Itz2 (x y : Str) : It := Itf (min x.cps.size y.cps.size) (two x y)
abbrev Itz3 (x y z : Str) : It := Itf (min (min x.cps.size y.cps.size) z.cps.size) (three x y z)
theorem iter_obj {h : Heap} {it : Addr} {ty : String} {x : Str} {t : Tok} {i : Nat} (st : h.IsStrIter it ty x t i) : ∃ o, h.get? it = some o ∧ ∀ v, o.data ≠ .cell v := by
  obtain ⟨o, e, c, d⟩ := st
  exact ⟨o, e, fun v z => by rw [d] at z; cases z⟩
theorem iter_keep {h h' : Heap} {it : Addr} {ty : String} {x : Str} {t : Tok} {i : Nat} (st : h.IsStrIter it ty x t i) (k : ∀ o, h.get? it = some o → h'.get? it = some o) : h'.IsStrIter it ty x t i := by
  obtain ⟨o, e, c, d⟩ := st
  exact ⟨o, k o e, c, d⟩
section
variable {P : Program} {w : World} {K : PySem.W.Frag} {elts : List Expr} {kk : Nat} {tpos : Pos}
theorem turn_z2 {x y : Str} {t u : Tok} {N : Nat} :
    Turn P w K (.Tuple elts kk tpos) (Itz2 x y) [N + 4, N + 2, N + 3, N, N + 1] (N + 4)
      (fun i h => IsZip h (N + 4) (N + 2) (N + 3) .none ∧ IsTupOf2 h (N + 2) (.ref N) (.ref (N + 1)) ∧ (∃ a1 a2, IsTupOf2 h (N + 3) a1 a2) ∧ h.IsStrIter N (strIterType x) x t i ∧ h.IsStrIter (N + 1) (strIterType y) y u i) :=
  turn_of (wr := [N + 4, N + 3, N, N + 1]) (fun A hh => GoesN.zip2 (zip_sep2 (N := N) (fp1 := []) (fp2 := []) (fun b h => by cases h) (fun b h => by cases h)) (Draws.text (A := A.in1) hh N x t) (Draws.text (A := A.in1) hh (N + 1) y u)) (by simp)
    (fun i h st b hb => by
      obtain ⟨hz, hTI, ⟨a1, a2, hTO⟩, h1, h2⟩ := st
      have e' : b = N + 4 ∨ b = N + 2 ∨ b = N + 3 ∨ b = N ∨ b = N + 1 := by simpa using hb
      rcases e' with q | q | q | q | q
      · rw [q]; exact ⟨_, hz, fun v q => nomatch q⟩
      · rw [q]; exact ⟨_, hTI, fun v q => nomatch q⟩
      · rw [q]; exact ⟨_, hTO, fun v q => nomatch q⟩
      · rw [q]; exact iter_obj h1
      · rw [q]; exact iter_obj h2)
    (fun A i s Q E st h => wpAny_pyIter_zip st.1 h)
    (fun i h h' st k => by
      obtain ⟨hz, hTI, ⟨a1, a2, hTO⟩, h1, h2⟩ := st
      exact ⟨k _ (by simp) _ hz, k _ (by simp) _ hTI, ⟨a1, a2, k _ (by simp) _ hTO⟩, iter_keep h1 (k _ (by simp)), iter_keep h2 (k _ (by simp))⟩)
    (fun b hb => by
      have e' : b = N + 4 ∨ b = N + 3 ∨ b = N ∨ b = N + 1 := by simpa using hb
      rcases e' with q | q | q | q <;> rw [q] <;> simp)
    (fun i h0 v h _ hy => by
      obtain ⟨T, a, b, ev, hT, ⟨c, ct, hc, rfl⟩, ⟨d, dt, hd, rfl⟩, hI⟩ := hy
      exact ⟨T, _, _, ev, hT, ⟨c, d, hc, hd, rfl⟩, by simp, .cons ⟨ct, rfl⟩ (.cons ⟨dt, rfl⟩ .nil), hI⟩)
theorem turn_z3 {x y z : Str} {t u v : Tok} {N : Nat} :
    Turn P w K (.Tuple elts kk tpos) (Itz3 x y z) [N + 5, N + 3, N + 4, N, N + 1, N + 2] (N + 5)
      (fun i h => IsZip h (N + 5) (N + 3) (N + 4) .none ∧ IsTupOf3 h (N + 3) (.ref N) (.ref (N + 1)) (.ref (N + 2)) ∧ (∃ a1 a2 a3, IsTupOf3 h (N + 4) a1 a2 a3) ∧ h.IsStrIter N (strIterType x) x t i ∧ h.IsStrIter (N + 1) (strIterType y) y u i ∧ h.IsStrIter (N + 2) (strIterType z) z v i) :=
  turn_of (wr := [N + 5, N + 4, N, N + 1, N + 2]) (fun A hh => GoesN.zip3 (zip_sep3 (N := N) (fp1 := []) (fp2 := []) (fp3 := []) (fun b h => by cases h) (fun b h => by cases h) (fun b h => by cases h)) (Draws.text (A := A.in1) hh N x t) (Draws.text (A := A.in1) hh (N + 1) y u) (Draws.text (A := A.in1) hh (N + 2) z v)) (by simp)
    (fun i h st b hb => by
      obtain ⟨hz, hTI, ⟨a1, a2, a3, hTO⟩, h1, h2, h3⟩ := st
      have e' : b = N + 5 ∨ b = N + 3 ∨ b = N + 4 ∨ b = N ∨ b = N + 1 ∨ b = N + 2 := by simpa using hb
      rcases e' with q | q | q | q | q | q
      · rw [q]; exact ⟨_, hz, fun v q => nomatch q⟩
      · rw [q]; exact ⟨_, hTI, fun v q => nomatch q⟩
      · rw [q]; exact ⟨_, hTO, fun v q => nomatch q⟩
      · rw [q]; exact iter_obj h1
      · rw [q]; exact iter_obj h2
      · rw [q]; exact iter_obj h3)
    (fun A i s Q E st h => wpAny_pyIter_zip st.1 h)
    (fun i h h' st k => by
      obtain ⟨hz, hTI, ⟨a1, a2, a3, hTO⟩, h1, h2, h3⟩ := st
      exact ⟨k _ (by simp) _ hz, k _ (by simp) _ hTI, ⟨a1, a2, a3, k _ (by simp) _ hTO⟩, iter_keep h1 (k _ (by simp)), iter_keep h2 (k _ (by simp)), iter_keep h3 (k _ (by simp))⟩)
    (fun b hb => by
      have e' : b = N + 5 ∨ b = N + 4 ∨ b = N ∨ b = N + 1 ∨ b = N + 2 := by simpa using hb
      rcases e' with q | q | q | q | q <;> rw [q] <;> simp)
    (fun i h0 v h _ hy => by
      obtain ⟨T, a, b, e, ev, hT, ⟨c, ct, hc, rfl⟩, ⟨d, dt, hd, rfl⟩, ⟨g, gt, hg, rfl⟩, hI⟩ := hy
      exact ⟨T, _, _, ev, hT, ⟨c, d, g, hc, hd, hg, rfl⟩, by simp, .cons ⟨ct, rfl⟩ (.cons ⟨dt, rfl⟩ (.cons ⟨gt, rfl⟩ .nil)), hI⟩)
end
def iZ2 (ta : TA) : TI := fun σ H R => ta σ H fun vs H1 => ∃ x y, vs = [.str x, .str y] ∧ R (Itz2 x y) H1
def iZ3 (ta : TA) : TI := fun σ H R => ta σ H fun vs H1 => ∃ x y z, vs = [.str x, .str y, .str z] ∧ R (Itz3 x y z) H1
theorem pi_zip2 {X : Cx} {e e2 : Expr} {ta : TA} {p pos tpos : Pos} {elts : List Expr} {kk : Nat} (hg : Gl X "zip") (hm : X.mg "zip" = none) (ha : PA X [e, e2] ta)
    (hs : starEach [e, e2] X.env = (false, eval e X.env) :: starEach [e2] X.env := by rfl) (hpl : (backTo pos (starEach [e2] X.env)).any (·.1) = false := by rfl) :
    PI X (.Tuple elts kk tpos) (.Call (.Name "zip" p) [e, e2] [] pos) (iZ2 ta) := by
  refine ⟨fun pins s σ H R I h => ?_⟩
  refine Call_ (ld_blt I hg hm PyProof.Rows.boot_zip (PyProof.Rows.callWith_type1 (thn (ha.run pos pins s σ H _ I h) fun us s1 ⟨vs, H1, I1, r1, q1⟩ => ?_) hs hpl))
  obtain ⟨x, y, ex, q⟩ := q1
  subst ex
  obtain ⟨a, b, rfl, ⟨t, rfl⟩, ⟨u, rfl⟩⟩ : ∃ a b, us = [a, b] ∧ (∃ t, a = .str x t) ∧ ∃ u, b = .str y u := by
    cases r1 with
    | cons r rr =>
      cases rr with
      | cons r' rr =>
        cases rr
        exact ⟨_, _, rfl, r, r'⟩
  refine zip_begins2 (begins_text x t) (begins_text y u) trivial trivial fun h' hz hTI hTO g1 g2 hsz hk => wpAny_pyIter_zip hz ?_
  have I2 : Inv X pins σ H1 { s1 with heap := h' } := I1.kept (t' := s1.toks) hk
  refine ⟨s1.heap.objs.size + 4, _, _, _, H1, rfl, I2, turn_z2 (x := x) (y := y) (t := t) (u := u) (N := s1.heap.objs.size), ⟨hz, hTI, ⟨_, _, hTO⟩, ⟨_, g1, rfl, rfl⟩, ⟨_, g2, rfl, rfl⟩⟩, fun c hcm => ?_, q⟩
  have hle : s1.heap.objs.size ≤ c := by
    have e' : c = s1.heap.objs.size + 4 ∨ c = s1.heap.objs.size + 2 ∨ c = s1.heap.objs.size + 3 ∨ c = s1.heap.objs.size ∨ c = s1.heap.objs.size + 1 := by simpa using hcm
    have hc : s1.heap.objs.size ≤ c := by
      rcases e' with z | z | z | z | z
      · rw [z]; exact Nat.le_add_right _ _
      · rw [z]; exact Nat.le_add_right _ _
      · rw [z]; exact Nat.le_add_right _ _
      · rw [z]; exact Nat.le_refl _
      · rw [z]; exact Nat.le_add_right _ _
    exact hc
  exact I1.fpOk hle (I1.hok.fresh hle)
theorem pi_zip3 {X : Cx} {e e2 e3 : Expr} {ta : TA} {p pos tpos : Pos} {elts : List Expr} {kk : Nat} (hg : Gl X "zip") (hm : X.mg "zip" = none) (ha : PA X [e, e2, e3] ta)
    (hs : starEach [e, e2, e3] X.env = (false, eval e X.env) :: starEach [e2, e3] X.env := by rfl) (hpl : (backTo pos (starEach [e2, e3] X.env)).any (·.1) = false := by rfl) :
    PI X (.Tuple elts kk tpos) (.Call (.Name "zip" p) [e, e2, e3] [] pos) (iZ3 ta) := by
  refine ⟨fun pins s σ H R I h => ?_⟩
  refine Call_ (ld_blt I hg hm PyProof.Rows.boot_zip (PyProof.Rows.callWith_type1 (thn (ha.run pos pins s σ H _ I h) fun us s1 ⟨vs, H1, I1, r1, q1⟩ => ?_) hs hpl))
  obtain ⟨x, y, z, ex, q⟩ := q1
  subst ex
  obtain ⟨a, b, c, rfl, ⟨t, rfl⟩, ⟨u, rfl⟩, ⟨v, rfl⟩⟩ : ∃ a b c, us = [a, b, c] ∧ (∃ t, a = .str x t) ∧ (∃ u, b = .str y u) ∧ ∃ v, c = .str z v := by
    cases r1 with
    | cons r rr =>
      cases rr with
      | cons r' rr =>
        cases rr with
        | cons r'' rr =>
          cases rr
          exact ⟨_, _, _, rfl, r, r', r''⟩
  refine zip_begins3 (begins_text x t) (begins_text y u) (begins_text z v) trivial trivial trivial fun h' hz hTI hTO g1 g2 g3 hsz hk => wpAny_pyIter_zip hz ?_
  have I2 : Inv X pins σ H1 { s1 with heap := h' } := I1.kept (t' := s1.toks) hk
  refine ⟨s1.heap.objs.size + 5, _, _, _, H1, rfl, I2, turn_z3 (x := x) (y := y) (z := z) (t := t) (u := u) (v := v) (N := s1.heap.objs.size), ⟨hz, hTI, ⟨_, _, _, hTO⟩, ⟨_, g1, rfl, rfl⟩, ⟨_, g2, rfl, rfl⟩, ⟨_, g3, rfl, rfl⟩⟩, fun c hcm => ?_, q⟩
  have hle : s1.heap.objs.size ≤ c := by
    have e' : c = s1.heap.objs.size + 5 ∨ c = s1.heap.objs.size + 3 ∨ c = s1.heap.objs.size + 4 ∨ c = s1.heap.objs.size ∨ c = s1.heap.objs.size + 1 ∨ c = s1.heap.objs.size + 2 := by simpa using hcm
    rcases e' with z | z | z | z | z | z
    · rw [z]; exact Nat.le_add_right _ _
    · rw [z]; exact Nat.le_add_right _ _
    · rw [z]; exact Nat.le_add_right _ _
    · rw [z]; exact Nat.le_refl _
    · rw [z]; exact Nat.le_add_right _ _
    · rw [z]; exact Nat.le_add_right _ _
  exact I1.fpOk hle (I1.hok.fresh hle)
end HZ
/-! a lambda with one parameter that has a whole number as its default, handed to a def -/
namespace HL
open PySem PySem.Spec PyProof.Rows L2 LamX
abbrev lq (X : Cx) : Str := X.env.qual ++ "<lambda>"
/-- the lambda's object: its defaults stand at t -/
abbrev lamO (X : Cx) (params : Arguments) (body : Expr) (scope : Scope) (t : Addr) (doc pm : Value) (c' : Addr) (ctv : Value) : Obj :=
  PySem.W.kdv_obj "<lambda>" (lq X) params (.expr body) scope (cloFrom X.env.cells scope.names []) (.ref t) doc pm c' ctv
/-- the object of a lambda without parameters -/
abbrev lam1 (X : Cx) (params : Arguments) (body : Expr) (scope : Scope) (pm : Value) (c' : Addr) (ctv : Value) : Obj :=
  PySem.W.kla_obj "<lambda>" (lq X) params body scope (cloFrom X.env.cells scope.names []) pm c' ctv
section
variable {X : Cx} {pins : List (Addr × Obj)} {σ : L2.St} {H : Hp} {s : Shared}
theorem not_frame (I : Inv X pins σ H s) {f : Addr} (hf : s.heap.objs.size ≤ f) : f ∉ frs X.stack := fun z => by
  cases List.mem_cons.mp (I.stkSub _ z) with
  | inl e =>
    have h1 := I.lt
    rw [← e] at h1
    exact absurd (Nat.lt_of_lt_of_le h1 hf) (Nat.lt_irrefl _)
  | inr e => exact I.nofs hf e
/-- the code object is new, or found in the table -/
theorem lam_tail {T : List (Addr × Str)} {c P t : Addr} {params : Arguments} {body : Expr} {scope : Scope} {pos : Pos} {E : Value → Shared → Prop} {Q : Value → Shared → Prop} {u : Value} (I : Inv X pins σ H s) (TB : TabB X.base X.mg c P) (co : X.env.code = .ref c)
    (mT : (P, lq X) ∈ T) (uT : ∀ p ∈ T, p.1 = P → p.2 = lq X) (tT : Tabs T H) (fr : ∀ y ∈ scope.names, y.2 = .free → ∃ c, X.env.cells.lookup y.1 = some c) (ht : s.heap.get? t = some (PySem.W.kdv_tup [u])) (nt : H t = none) (ft : t ∉ frs X.stack)
    (h : ∀ (f c' : Addr) (doc pm ctv : Value) (H1 : Hp) (s' : Shared), Inv X pins σ H1 s' → ExtN H H1 → Tabs T H1 → s'.heap.get? f = some (lamO X params body scope t doc pm c' ctv) → s'.heap.get? t = some (PySem.W.kdv_tup [u]) →
      H1 f = none → H1 t = none → f ∉ frs X.stack → t ∉ frs X.stack → H1 c' = some (CodeO c' (lq X)) → Q (.ref f) s') :
    wpAny (model X.prog X.w) X.A (makeTail "<lambda>" (lq X) params (.expr body) scope X.env (.ref t) .none none pos pos.line) Q E s := by
  obtain ⟨ps, pH, p3, pa⟩ := tT _ mT
  have bP : s.heap.BuiltinsAt X.mg P := TB.bm.keeps I.bk
  have pS : s.heap.get? P = some { cls := .none, data := .fields ps } := I.hok P _ pH
  have tP : t ≠ P := fun z => by
    rw [z, pH] at nt
    cases nt
  cases hit : codeAmong pos ps.toList with
  | some cv =>
    obtain ⟨c', ec, hco⟩ := pa pos cv hit
    subst ec
    apply PySem.W.kdv_makeTailHit (mg := X.mg) (c := c) (P := P) (ps := ps) (closure_ok fr) I.ok.glob (I.mod.glob.keeps I.bk) co (TB.code.keeps I.bk) pS p3 hit bP
    intro ctv doc h' tk kp sz
    have J : Inv X pins σ H { s with heap := h'.push (lamO X params body scope t doc ((X.mg "__name__").getD .none) c' ctv), toks := tk } := I.kept fun b o e => Heap.get?_push_of_some _ (kp b o e)
    exact h h'.objs.size c' doc _ ctv H _ J (ExtN.refl H) tT (Heap.get?_push_size _ rfl) (Heap.get?_push_of_some _ (kp _ _ ht)) (I.hok.fresh sz) nt (not_frame I sz) ft hco
  | none =>
    apply PySem.W.kdv_makeTail (mg := X.mg) (c := c) (P := P) (ps := ps) (closure_ok fr) I.ok.glob (I.mod.glob.keeps I.bk) co (TB.code.keeps I.bk) pS p3 hit TB.gP bP
    intro c' ctv doc h' tk kp ge lt rec tab
    obtain ⟨c2, oc, vs, tq, ec, o1, o2, o3⟩ := rec
    cases ec
    have sz : s.heap.objs.size ≤ h'.objs.size := Nat.le_trans ge (Nat.le_of_lt lt)
    have nC : H c' = none := I.hok.fresh ge
    have J := inv_table (t' := tk) (more := #[rawInt pos.line, rawInt pos.col, .ref c']) (h' := h'.push (lamO X params body scope t doc ((X.mg "__name__").getD .none) c' ctv)) (q := lq X) I pH
      (fun b o hb e => Heap.get?_push_of_some _ (kp b o hb e)) (Heap.get?_push_of_some _ tab) ge ⟨oc, vs, tq, Heap.get?_push_of_some _ o1, o2, o3⟩
    have G : ExtN H (upd (upd H P (.tbl (ps ++ #[rawInt pos.line, rawInt pos.col, .ref c']))) c' (CodeO c' (lq X))) := fun b o e n => by
      have b1 : b ≠ c' := ne_of_none e nC
      have b2 : b ≠ P := fun z => n ps (Option.some.inj (e.symm.trans (by rw [z]; exact pH)))
      rw [upd_ne b1, upd_ne b2]
      exact e
    have nPc : P ≠ c' := ne_of_none pH nC
    have tL : (ps ++ #[rawInt pos.line, rawInt pos.col, .ref c']).toList = ps.toList ++ [rawInt pos.line, rawInt pos.col, .ref c'] := by simp
    have tc : t ≠ c' := Nat.ne_of_lt (Nat.lt_of_lt_of_le (Heap.lt_size ht) ge)
    refine h h'.objs.size c' doc _ ctv _ _ J G (fun p hp => ?_) (Heap.get?_push_size _ rfl) (Heap.get?_push_of_some _ (kp _ _ tP ht)) ?_ (by rw [upd_ne tc, upd_ne tP]; exact nt) (not_frame I sz) ft upd_same
    · by_cases hb : p.1 = P
      · rw [uT p hp hb, hb]
        refine ⟨_, (upd_ne nPc).trans upd_same, by rw [tL]; exact PySem.TriplesOk_snoc _ _ _ _ p3, fun p' cv hcv => ?_⟩
        rw [tL] at hcv
        cases among_app _ p3 hcv with
        | inl z =>
          obtain ⟨c0, e1, e2⟩ := pa p' cv z
          exact ⟨c0, e1, G _ _ e2 codeO_ne⟩
        | inr z => exact ⟨c', z, upd_same⟩
      · obtain ⟨ps', a1, a2, a3⟩ := tT p hp
        have n1 : p.1 ≠ c' := ne_of_none a1 nC
        refine ⟨ps', ((upd_ne n1).trans (upd_ne hb)).trans a1, a2, fun p' cv hcv => ?_⟩
        obtain ⟨c0, e1, e2⟩ := a3 p' cv hcv
        exact ⟨c0, e1, G _ _ e2 codeO_ne⟩
    · have n1 : h'.objs.size ≠ c' := Nat.ne_of_gt lt
      have n2 : h'.objs.size ≠ P := Nat.ne_of_gt (Nat.lt_of_lt_of_le (Heap.lt_size pS) sz)
      rw [upd_ne n1, upd_ne n2]
      exact I.hok.fresh sz
theorem lam_makeD {T : List (Addr × Str)} {c P : Addr} {params : Arguments} {body : Expr} {scope : Scope} {pos p1 : Pos} {n : Int} {j : Nat} {Q : Value → Shared → Prop} (I : Inv X pins σ H s) (TB : TabB X.base X.mg c P) (co : X.env.code = .ref c)
    (mT : (P, lq X) ∈ T) (uT : ∀ p ∈ T, p.1 = P → p.2 = lq X) (tT : Tabs T H) (fr : ∀ y ∈ scope.names, y.2 = .free → ∃ c, X.env.cells.lookup y.1 = some c) (df : params.defaults = [.Constant (.int n) j p1]) (kw : params.kw_defaults = [])
    (h : ∀ (u : Value) (t f c' : Addr) (doc pm ctv : Value) (H1 : Hp) (s' : Shared), Inv X pins σ H1 s' → ExtN H H1 → Tabs T H1 → s'.heap.get? f = some (lamO X params body scope t doc pm c' ctv) → s'.heap.get? t = some (PySem.W.kdv_tup [u]) →
      H1 f = none → H1 t = none → f ∉ frs X.stack → t ∉ frs X.stack → H1 c' = some (CodeO c' (lq X)) → Q (.ref f) s') :
    wpAny (model X.prog X.w) X.A (eval (.Lambda params body scope pos) X.env) Q X.xe s := by
  apply PySem.W.kdv_lam (by rw [df]; rfl) kw
  rw [df]
  apply PySem.W.kdv_all1
  refine thn ((pe_int (X := X) (i := n) (j := j) (pos := p1)).run pins s σ H (fun v H2 => v = .int n ∧ H2 = H) I ⟨rfl, rfl⟩) fun u s1 z => ?_
  obtain ⟨v, H2, I1, r1, _, eH⟩ := z
  rw [eH] at I1
  apply PySem.W.kdv_all0
  rw [makeFunction_eq]
  simp only [List.zip_nil_right, List.filterMap_nil, List.isEmpty_nil, if_true, pure_bind, List.isEmpty_cons, Bool.false_eq_true, if_false]
  refine wpAny_bind (wpAny_newTextTuple ?_)
  have I2 : Inv X pins σ H { s1 with heap := s1.heap.push (PySem.W.kdv_tup [u]) } := I1.kept (t' := s1.toks) fun b o e => Heap.get?_push_of_some _ e
  exact lam_tail I2 TB co mT uT tT fr (Heap.get?_push_size _ rfl) (I1.hok.fresh (Nat.le_refl _)) (not_frame I1 (Nat.le_refl _)) fun f c' doc pm ctv H1 s' => h u _ f c' doc pm ctv H1 s'
end
/-! ### the lambda's names -/
/-- its parameter d, captured names, globals -/
structure LamD (sc scope : Scope) (d : Str) : Prop where
  kind : scope.kind = .function
  co : scope.isCoroutine = false
  gen : scope.isGenerator = false
  loc : ∀ y ∈ scope.names, y.2 = .local → y.1 = d
  cel : ∀ y ∈ scope.names, y.2 ≠ .cell
  par : scope.names.lookup d = some .local
  free : ∀ y ∈ scope.names, y.2 = .free → sc.names.lookup y.1 = some .cell ∨ sc.names.lookup y.1 = some .free
def lamDB (sc scope : Scope) (d : Str) : Bool :=
  decide (scope.kind = .function) && (!scope.isCoroutine && (!scope.isGenerator && (scope.names.all (fun y => (!decide (y.2 = .local) || decide (y.1 = d)) && (!decide (y.2 = .cell) && (!decide (y.2 = .free) || (decide (sc.names.lookup y.1 = some .cell) || decide (sc.names.lookup y.1 = some .free))))) && decide (scope.names.lookup d = some .local))))
theorem lamD_by {sc scope : Scope} {d : Str} (h : lamDB sc scope d = true) : LamD sc scope d := by
  unfold lamDB at h
  simp only [Bool.and_eq_true, Bool.or_eq_true, Bool.not_eq_true', decide_eq_true_eq, decide_eq_false_iff_not, List.all_eq_true] at h
  obtain ⟨h1, h2, h3, h4, h5⟩ := h
  refine ⟨h1, h2, h3, fun y hy e => ?_, fun y hy => (h4 y hy).2.1, h5, fun y hy e => ?_⟩
  · cases (h4 y hy).1 with
    | inl z => exact absurd e z
    | inr z => exact z
  · cases (h4 y hy).2.2 with
    | inl z => exact absurd e z
    | inr z => exact z
theorem LamD.has {X : Cx} {scope : Scope} {d : Str} (L : LamD X.env.scope scope d) (ok : X.Ok) : ∀ y ∈ scope.names, y.2 = .free → ∃ c, X.env.cells.lookup y.1 = some c := fun y hy e => by
  cases L.free y hy e with
  | inl k => exact ok.has _ (.inl k)
  | inr k => exact ok.has _ (.inr k)
section
variable {X : Cx} {pins : List (Addr × Obj)} {σ : L2.St} {H HZ : Hp} {s s1 : Shared}
theorem lam_startD {A : Around} {outer : List Env} {E : XK} {scope : Scope} {d : Str} {u : Value} {f c' : Addr} {h₁ : Heap} {tk : Nat} (I : Inv X pins σ H s) (L : LamD X.env.scope scope d) (dN : d ∉ X.N) (e0 : Env0 X.prog X.w X.K X.mg X.base A outer s1 HZ) (hd : A.handled = none)
    (un : Un (frs X.stack) [] H HZ s.heap s1.heap) (hns : h₁.Ns s1.heap.objs.size fun y => [(d, u)].reverse.lookup y) (kp : ∀ b o, s1.heap.get? b = some o → h₁.get? b = some o) :
    Inv (lamCx X A outer s1 HZ E scope f c') [] σ HZ { s1 with heap := h₁, toks := tk } := by
  have fr := L.has I.ok
  have down : ∀ {y c}, (cloFrom X.env.cells scope.names []).lookup y = some c → X.env.cells.lookup y = some c := fun {y c} e => by
    cases cloFrom_mem (PySem.mem_of_lookup e) with
    | inl hm => cases hm
    | inr hh =>
      obtain ⟨c1, hc⟩ := fr _ hh.1 rfl
      have hc2 : X.env.cells.lookup y = some c1 := hc
      have e2 : c = c1 := by
        have z := hh.2
        rw [hc2] at z
        exact z
      rw [e2]
      exact hc2
  have up : ∀ {y}, scope.names.lookup y = some .free → ∃ c, (cloFrom X.env.cells scope.names []).lookup y = some c := fun {y} hl =>
    mem_lookup (cloFrom_has (cells := X.env.cells) (acc := []) (PySem.mem_of_lookup hl))
  have stay : ∀ {c : Addr} {v : Option Value}, H c = none → s.heap.IsCell c v → h₁.IsCell c v := fun {c v} n z => by
    obtain ⟨o, ho, hd⟩ := z
    obtain ⟨sl, q⟩ := un.any ho n (by simp)
    exact ⟨_, kp _ _ q, hd⟩
  have none' : ∀ b : Addr, b ∉ (lamCx X A outer s1 HZ E scope f c').ex := fun b z => absurd (show b ∈ ([] : List Addr) from z) (by simp)
  refine ⟨⟨e0.mod, L.kind, rfl, rfl, Nat.le_refl _, fun y z c e1 e2 => I.ok.inj y z c (down e1) (down e2), fun y hy => ?_, fun y c z _ => ?_, fun _ => hd, Around.frames_deeper e0.frames, .inr ⟨rfl, rfl⟩, fun b z => absurd z (none' b), e0.bs, e0.bsz, fun b _ _ => none' b,
      fun b z => absurd z (none' b), e0.funs, e0.frf⟩,
    rfl, e0.bare, Un.kept kp, ⟨_, hns, fun i y v e1 e2 e3 => ?_⟩, fun y c e => ?_, e0.hok.fresh (Nat.le_refl _), fun y c e => ?_, fun q hq => absurd (show q ∈ ([] : List (Addr × Obj)) ++ [] from hq) (by simp), e0.hok.kept kp, I.len⟩
  · have hy2 : scope.names.lookup y = some .cell ∨ scope.names.lookup y = some .free := hy
    cases hy2 with
    | inl hy2 => exact absurd rfl (L.cel _ (PySem.mem_of_lookup hy2))
    | inr hy2 => exact up hy2
  · exact nomatch (show false = true from z)
  · have e4 : Vis scope y := e3
    rcases e4 with k | k | k
    · have ed : y = d := L.loc _ (PySem.mem_of_lookup k) rfl
      have e5 : X.N[i]? = some y := e1
      exact absurd (List.mem_of_getElem? (ed ▸ e5)) dN
    · exact absurd rfl (L.cel _ (PySem.mem_of_lookup k))
    · obtain ⟨m, hn, hl⟩ := I.loc
      have vis : Vis X.env.scope y := by
        cases L.free _ (PySem.mem_of_lookup k) rfl with
        | inl k2 => exact .inr (.inl k2)
        | inr k2 => exact .inr (.inr k2)
      obtain ⟨w', r, q⟩ := hl i y v e1 e2 vis
      obtain ⟨c2, h2⟩ := up k
      refine ⟨w', r, .inr ⟨.inr k, c2, h2, ?_⟩⟩
      have c1 := down h2
      rcases q with ⟨k', _⟩ | ⟨_, c3, e', z⟩
      · have k3 : X.env.scope.names.lookup y = some .local := k'
        rcases L.free _ (PySem.mem_of_lookup k) rfl with k2 | k2
        · rw [show X.env.scope.names.lookup y = _ from k2] at k3
          cases k3
        · rw [show X.env.scope.names.lookup y = _ from k2] at k3
          cases k3
      · rw [c1] at e'
        cases e'
        exact stay (I.freeC y _ c1) z
  · obtain ⟨w', z⟩ := I.cell y c (down e)
    exact ⟨w', stay (I.freeC y c (down e)) z⟩
  · obtain ⟨v, o, ho, hd⟩ := I.cell y c (down e)
    exact un.free c o ho (I.freeC y c (down e)) (by simp)
/-- x(), in the def that got the lambda -/
theorem pe_actD {CXg : CXT} {Eg : XK} {Ng : List Str} {qg : Str} {sg : Scope} {g f c' t : Addr} {cdg doc pm ctv u : Value} {params : Arguments} {body : Expr} {scope : Scope} {k i : Nat} {a d : Str} {pn : List (Addr × Obj)} {xe : Value → Shared → Prop} {W : WX} {tb : XK → TE} {p1 p2 : Pos}
    (I : Inv X pins σ H s) (L : LamD X.env.scope scope d) (dN : d ∉ X.N) (hf : s.heap.get? f = some (lamO X params body scope t doc pm c' ctv)) (ht : s.heap.get? t = some (PySem.W.kdv_tup [u])) (nf : H f = none) (nt : H t = none) (ff : f ∉ frs X.stack) (ft : t ∉ frs X.stack)
    (bd : ∀ (q : Str) (cl : List (Str × Addr)) (dV doc pm cv ctv u : Value), ∃ kk, bindArgs (PySem.W.kdv_fn "<lambda>" q params (.expr body) scope cl dV doc pm cv ctv) ⟨[], []⟩ = seqItems? dV >>= kk ∧ kk (some #[u]) = pure [(d, u)])
    (tk : Takes ((cxOf CXg X.prog X.w X.K X.mg X.base Ng qg sg g cdg X.A X.stack s H Eg).tr pn xe) W) (hr : Room (k + 1) (X.A.deeper (envOfC qg sg s.heap.objs.size g cdg)))
    (hbody : ∀ (E : XK) (A : Around) (outer : List Env) (s : Shared) (H : Hp), Room k (A.deeper (lamEnv X scope s.heap.objs.size f c')) → PE (lamCx X A outer s H E scope f c') body (tb E))
    (hN : Ng[i]? = some a) (hv : Vis sg a) (n1 : (a == ("__debug__" : Str)) = false := by decide) (n2 : (a == ("__classdict__" : Str)) = false := by decide) :
    PE ((cxOf CXg X.prog X.w X.K X.mg X.base Ng qg sg g cdg X.A X.stack s H Eg).tr pn xe) (.Call (.Name a p1) [] [] p2)
      (fun σZ HZ Q => σZ[i]? = some (some (.ref f)) ∧ HZ c' = some (CodeO c' (lq X)) ∧ tb (WE W σZ) σ HZ Q) := by
  constructor
  intro pinsZ sZ σZ HZ Q IZ h
  obtain ⟨hs, hc, hb⟩ := h
  refine wpAny_Call_Name_kw (thn ((pe_var (pos := p1) (i := i) hN hv n1 n2).run pinsZ sZ σZ HZ (fun v H1 => v = .ref f ∧ H1 = HZ) IZ ⟨.ref f, hs, rfl, rfl⟩) fun uu s1 z => ?_)
  obtain ⟨v, H1, I1, r1, ev, eH⟩ := z
  subst ev
  rw [eH] at I1
  obtain rfl : uu = Value.ref f := r1
  have of1 : s1.heap.get? f = some (lamO X params body scope t doc pm c' ctv) := I1.base.keep f _ hf nf ff (fun z => nomatch (show f ∈ ([] : List Addr) from z))
  have ot1 : s1.heap.get? t = some (PySem.W.kdv_tup [u]) := I1.base.keep t _ ht nt ft (fun z => nomatch (show t ∈ ([] : List Addr) from z))
  refine PySem.W.callWith_F0 ⟨_, _, _, _, of1⟩ ?_
  have un : Un (frs X.stack) [] H HZ s.heap s1.heap := I1.base
  obtain ⟨⟨oc, vs, tq, o1, o2, o3⟩, _, _⟩ := I1.hok c' _ hc
  obtain ⟨kk, b1, b2⟩ := bd (lq X) (cloFrom X.env.cells scope.names []) (.ref t) doc pm (.ref c') ctv u
  have bt : BindsTo s1 (PySem.W.kdv_fn "<lambda>" (lq X) params (.expr body) scope (cloFrom X.env.cells scope.names []) (.ref t) doc pm (.ref c') ctv) ⟨[], []⟩ [(d, u)] := BindsTo.of_defaults rfl ot1 rfl b1 b2
  have rc : codeAny (model X.prog X.w) (X.A.deeper (envOfC qg sg s.heap.objs.size g cdg)) (.call (.ref f) ⟨[], []⟩) (CR (L2.CX X.prog X.w) (envOfC qg sg s.heap.objs.size g cdg :: X.stack) X.prog X.w HZ s1 Q (WE W σZ)) s1 := by
    refine PySem.W.kla_callFunE hr.depth of1 rfl L.co L.gen rfl ⟨c', oc, vs, tq, rfl, o1, o2, o3⟩ (bt _ _ _ _ ?_)
    refine wpAny_newFunctionEnv (fun y hy => L.cel y hy) (fun y hy => ?_) (fun h₁ hns hsb => ⟨I1.nolimit.fresh _ hsb, ?_⟩) L.kind
    · rw [List.mem_singleton.mp hy]
      exact L.par
    show codeAny _ _ (.expr body (lamEnv X scope s1.heap.objs.size f c')) _ _
    have kp : ∀ b o, s1.heap.get? b = some o → h₁.get? b = some o := fun b o e => hsb.extBut b o (Nat.ne_of_lt (Heap.lt_size e)) (Heap.get?_push_of_some _ e)
    have J : Inv (lamCx X (X.A.deeper (envOfC qg sg s.heap.objs.size g cdg)) (envOfC qg sg s.heap.objs.size g cdg :: X.stack) s1 HZ (WE W σZ) scope f c') [] σ HZ { s1 with heap := h₁, toks := s1.toks + [(d, u)].length } :=
      lam_startD I L dN I1.env0 hr.hd un hns kp
    refine PySem.W.kla_codeExpr (wpAny_mono ((hbody (WE W σZ) _ _ s1 HZ (hr.deeper _)).run [] _ _ HZ Q J hb) (fun v s' hq => ?_) fun e s' hq => hq)
    obtain ⟨w', H', J', rv, q⟩ := hq
    exact ⟨w', H', J'.os, J'.bare, J'.base, J'.hok, rv, q⟩
  have hx := passAt tk σZ
  refine wpAny_call (codeAny_mono rc fun r s' hq => ?_)
  cases r with
  | error e => exact hx pinsZ HZ s1 e s' I1 hq
  | ok fl =>
    cases fl with
    | ret u => exact I1.after hq
    | next => exact False.elim hq
    | brk => exact False.elim hq
    | cont => exact False.elim hq
/-- x(), in the def that got the lambda without parameters -/
theorem pe_act0 {CXg : CXT} {Eg : XK} {Ng : List Str} {qg : Str} {sg : Scope} {g f c' : Addr} {cdg pm ctv : Value} {params : Arguments} {body : Expr} {scope : Scope} {k i : Nat} {a : Str} {pn : List (Addr × Obj)} {xe : Value → Shared → Prop} {W : WX} {tb : XK → TE} {p1 p2 : Pos}
    (I : Inv X pins σ H s) (L : LamS X.env.scope scope) (hf : s.heap.get? f = some (lam1 X params body scope pm c' ctv)) (nf : H f = none) (ff : f ∉ frs X.stack)
    (bd : ∀ (q : Str) (cl : List (Str × Addr)) (pm cv ctv : Value), bindArgs (PySem.W.kla_fn "<lambda>" q params body scope cl pm cv ctv) ⟨[], []⟩ = pure [])
    (tk : Takes ((cxOf CXg X.prog X.w X.K X.mg X.base Ng qg sg g cdg X.A X.stack s H Eg).tr pn xe) W) (hr : Room (k + 1) (X.A.deeper (envOfC qg sg s.heap.objs.size g cdg)))
    (hbody : ∀ (E : XK) (A : Around) (outer : List Env) (s : Shared) (H : Hp), Room k (A.deeper (lamEnv X scope s.heap.objs.size f c')) → PE (lamCx X A outer s H E scope f c') body (tb E))
    (hN : Ng[i]? = some a) (hv : Vis sg a) (n1 : (a == ("__debug__" : Str)) = false := by decide) (n2 : (a == ("__classdict__" : Str)) = false := by decide) :
    PE ((cxOf CXg X.prog X.w X.K X.mg X.base Ng qg sg g cdg X.A X.stack s H Eg).tr pn xe) (.Call (.Name a p1) [] [] p2)
      (fun σZ HZ Q => σZ[i]? = some (some (.ref f)) ∧ HZ c' = some (CodeO c' (lq X)) ∧ tb (WE W σZ) σ HZ Q) := by
  constructor
  intro pinsZ sZ σZ HZ Q IZ h
  obtain ⟨hs, hc, hb⟩ := h
  refine wpAny_Call_Name_kw (thn ((pe_var (pos := p1) (i := i) hN hv n1 n2).run pinsZ sZ σZ HZ (fun v H1 => v = .ref f ∧ H1 = HZ) IZ ⟨.ref f, hs, rfl, rfl⟩) fun uu s1 z => ?_)
  obtain ⟨v, H1, I1, r1, ev, eH⟩ := z
  subst ev
  rw [eH] at I1
  obtain rfl : uu = Value.ref f := r1
  have of1 : s1.heap.get? f = some (lam1 X params body scope pm c' ctv) := I1.base.keep f _ hf nf ff (fun z => nomatch (show f ∈ ([] : List Addr) from z))
  refine PySem.W.callWith_F0 ⟨_, _, _, _, of1⟩ ?_
  have un : Un (frs X.stack) [] H HZ s.heap s1.heap := I1.base
  obtain ⟨⟨oc, vs, tq, o1, o2, o3⟩, _, _⟩ := I1.hok c' _ hc
  have rc : codeAny (model X.prog X.w) (X.A.deeper (envOfC qg sg s.heap.objs.size g cdg)) (.call (.ref f) ⟨[], []⟩) (CR (L2.CX X.prog X.w) (envOfC qg sg s.heap.objs.size g cdg :: X.stack) X.prog X.w HZ s1 Q (WE W σZ)) s1 := by
    refine PySem.W.kla_callFunE hr.depth of1 rfl L.co L.gen rfl ⟨c', oc, vs, tq, rfl, o1, o2, o3⟩ ?_
    rw [bd]
    apply wpAny_pure
    refine wpAny_newFunctionEnv (fun y hy => (L.own y hy).2) (fun y hy => absurd hy (by simp)) (fun h₁ hns hsb => ⟨I1.nolimit.fresh _ hsb, ?_⟩) L.kind
    show codeAny _ _ (.expr body (lamEnv X scope s1.heap.objs.size f c')) _ _
    have kp : ∀ b o, s1.heap.get? b = some o → h₁.get? b = some o := fun b o e => hsb.extBut b o (Nat.ne_of_lt (Heap.lt_size e)) (Heap.get?_push_of_some _ e)
    have J : Inv (lamCx X (X.A.deeper (envOfC qg sg s.heap.objs.size g cdg)) (envOfC qg sg s.heap.objs.size g cdg :: X.stack) s1 HZ (WE W σZ) scope f c') [] σ HZ { s1 with heap := h₁, toks := s1.toks + ([] : List (Str × Value)).length } :=
      lam_start2 I L I1.env0 hr.hd un hns kp
    refine PySem.W.kla_codeExpr (wpAny_mono ((hbody (WE W σZ) _ _ s1 HZ (hr.deeper _)).run [] _ _ HZ Q J hb) (fun v s' hq => ?_) fun e s' hq => hq)
    obtain ⟨w', H', J', rv, q⟩ := hq
    exact ⟨w', H', J'.os, J'.bare, J'.base, J'.hok, rv, q⟩
  have hx := passAt tk σZ
  refine wpAny_call (codeAny_mono rc fun r s' hq => ?_)
  cases r with
  | error e => exact hx pinsZ HZ s1 e s' I1 hq
  | ok fl =>
    cases fl with
    | ret u => exact I1.after hq
    | next => exact False.elim hq
    | brk => exact False.elim hq
    | cont => exact False.elim hq
end
/-- the def that calls what it got, once; its errors are told at the slots of the call -/
def GiveL (X : Cx) (Ng : List Str) (x : Str) (sg : Scope) (g : Addr) (cdg : Value) (bg : List Stmt) (a q : Str) (TT : (XK → Hp → VK → Prop) → Hp → VK → Prop) : Prop :=
  ∀ (f c' : Addr) (s : Shared) (H : Hp) (Q : VK) (tl : XK → Hp → VK → Prop),
    (∀ (W : WX) (pn : List (Addr × Obj)) (xe : Value → Shared → Prop) (p1 p2 : Pos), Takes ((cxOf CX0 X.prog X.w X.K X.mg X.base Ng x sg g cdg X.A X.stack s H E0).tr pn xe) W →
      PE ((cxOf CX0 X.prog X.w X.K X.mg X.base Ng x sg g cdg X.A X.stack s H E0).tr pn xe) (.Call (.Name a p1) [] [] p2) (fun σZ HZ Q => σZ[0]? = some (some (.ref f)) ∧ HZ c' = some (CodeO c' q) ∧ tl (WE W σZ) HZ Q)) →
    H c' = some (CodeO c' q) → TT tl H Q →
    ∃ t, PSs (cxOf CX0 X.prog X.w X.K X.mg X.base Ng x sg g cdg X.A X.stack s H E0).nox bg t ∧ t { nx := fun _ H' => Q .non H', rt := Q } (L2.start Ng [.ref f]) H
section
variable {X : Cx}
/-- x(lambda d=n: body) -/
theorem pe_lamD {T : List (Addr × Str)} {TT : (XK → Hp → VK → Prop) → Hp → VK → Prop} {x a d : Str} {g c P : Addr} {k : Nat} {pg : Arguments} {bg : List Stmt} {sg : Scope} {dV kV doc pm cdv ct oc : Value} {an od : Option Addr} {osl : Array (Option Value)} {Ng : List Str}
    {params : Arguments} {body : Expr} {scope : Scope} {t : XK → TE} {p lpos pos p1 : Pos} {n : Int} {j : Nat} (hg : Gl X x) (hm : X.mg x = some (.ref g)) (hk : PySem.W.keepIn X.K (.ref g) = true)
    (lk : X.K.lookup g = some ⟨oc, od, .func (PySem.W.fnOf x x pg bg sg dV kV doc pm an cdv ct), osl⟩) (hcg : PySem.W.codeIn X.K cdv x = true) (hb : L2.Binds X.K (PySem.W.fnOf x x pg bg sg dV kV doc pm an cdv ct) [a] []) (Sg : FnScope Ng [a] sg) (hNg : Ng[0]? = some a) (hva : Vis sg a)
    (hG : GiveL X Ng x sg g cdv bg a (lq X) TT)
    (TB : TabB X.base X.mg c P) (co : X.env.code = .ref c) (mT : (P, lq X) ∈ T) (uT : ∀ p ∈ T, p.1 = P → p.2 = lq X) (hr : Room (k + 2) X.A) (L : LamD X.env.scope scope d) (dN : d ∉ X.N) (df : params.defaults = [.Constant (.int n) j p1]) (kw : params.kw_defaults = [])
    (bd : ∀ (q : Str) (cl : List (Str × Addr)) (dV doc pm cv ctv u : Value), ∃ kk, bindArgs (PySem.W.kdv_fn "<lambda>" q params (.expr body) scope cl dV doc pm cv ctv) ⟨[], []⟩ = seqItems? dV >>= kk ∧ kk (some #[u]) = pure [(d, u)])
    (hbody : ∀ (A : Around) (outer : List Env) (s : Shared) (H : Hp) (E : XK) (f c' : Addr), Room k (A.deeper (lamEnv X scope s.heap.objs.size f c')) → PE (lamCx X A outer s H E scope f c') body (t E))
    (n0 : (x == ("__debug__" : Str)) = false := by decide) (n1 : (a == ("__debug__" : Str)) = false := by decide) (n2 : (a == ("__classdict__" : Str)) = false := by decide) :
    PE X (.Call (.Name x p) [.Lambda params body scope lpos] [] pos) (tLam T TT t) := by
  constructor
  intro pins s σ H Q I h
  obtain ⟨hT, h⟩ := h
  apply wpAny_Call_Name_kw (ld_glob I hg hm _ n0)
  apply PySem.W.callWith_K (h₀ := X.base) I.ok.mod.kin hk _ (by rfl) (by rfl)
  show wpAny _ _ (spliced ((false, eval (.Lambda params body scope lpos) X.env) :: backTo pos (starEach [] X.env))) _ _ s
  apply Calls.spliced_cons
  apply lam_makeD I TB co mT uT hT (L.has I.ok) df kw
  intro u t0 f c' doc' pm' ctv H1 s' I1 eN T1 hf ht nf nt ff ft hco
  apply Calls.spliced_nil
  refine And.intro I1.kIn ?_
  have rc : codeAny (model X.prog X.w) X.A (.call (.ref g) ⟨[.ref f], []⟩) (CR CX0 X.stack X.prog X.w H1 s' Q E0) s' := by
    apply run_ofS (N := Ng) (ps := [a]) (us := [.ref f]) (vs := [.ref f]) lk hcg Sg hr I1.env0 (hb s' [.ref f] I1.kIn rfl) (.cons rfl .nil) rfl
    intro hr'
    obtain ⟨t', h1, h2⟩ := hG f c' s' H1 Q (fun E H' Q' => t E σ H' Q') (fun W pn xe p1 p2 tk => pe_actD (i := 0) (tb := t) I1 L dN hf ht nf nt ff ft bd tk hr' (fun E A outer s H hr2 => hbody A outer s H E f c' hr2) hNg hva n1 n2) hco (h H1 eN T1)
    exact ⟨t', h1.nox, h2⟩
  apply wpAny_call
  apply codeAny_mono rc
  intro r s2 hq
  cases r with
  | error e => exact (show False from hq).elim
  | ok fl =>
    cases fl with
    | ret u => exact I1.after hq
    | next => exact False.elim hq
    | brk => exact False.elim hq
    | cont => exact False.elim hq
end
section
variable {X : Cx}
/-- x(lambda: body) -/
theorem pe_lam0 {T : List (Addr × Str)} {TT : (XK → Hp → VK → Prop) → Hp → VK → Prop} {x a : Str} {g c P : Addr} {k : Nat} {pg : Arguments} {bg : List Stmt} {sg : Scope} {dV kV doc pm cdv ct oc : Value} {an od : Option Addr} {osl : Array (Option Value)} {Ng : List Str}
    {params : Arguments} {body : Expr} {scope : Scope} {t : XK → TE} {p lpos pos : Pos} (hg : Gl X x) (hm : X.mg x = some (.ref g)) (hk : PySem.W.keepIn X.K (.ref g) = true)
    (lk : X.K.lookup g = some ⟨oc, od, .func (PySem.W.fnOf x x pg bg sg dV kV doc pm an cdv ct), osl⟩) (hcg : PySem.W.codeIn X.K cdv x = true) (hb : L2.Binds X.K (PySem.W.fnOf x x pg bg sg dV kV doc pm an cdv ct) [a] []) (Sg : FnScope Ng [a] sg) (hNg : Ng[0]? = some a) (hva : Vis sg a)
    (hG : GiveL X Ng x sg g cdv bg a (lq X) TT)
    (TB : TabB X.base X.mg c P) (co : X.env.code = .ref c) (mT : (P, lq X) ∈ T) (uT : ∀ p ∈ T, p.1 = P → p.2 = lq X) (hr : Room (k + 2) X.A) (L : LamS X.env.scope scope) (df : defaultsOf params X.env = ([], []))
    (bd : ∀ (q : Str) (cl : List (Str × Addr)) (pm cv ctv : Value), bindArgs (PySem.W.kla_fn "<lambda>" q params body scope cl pm cv ctv) ⟨[], []⟩ = pure [])
    (hbody : ∀ (A : Around) (outer : List Env) (s : Shared) (H : Hp) (E : XK) (f c' : Addr), Room k (A.deeper (lamEnv X scope s.heap.objs.size f c')) → PE (lamCx X A outer s H E scope f c') body (t E))
    (n0 : (x == ("__debug__" : Str)) = false := by decide) (n1 : (a == ("__debug__" : Str)) = false := by decide) (n2 : (a == ("__classdict__" : Str)) = false := by decide) :
    PE X (.Call (.Name x p) [.Lambda params body scope lpos] [] pos) (tLam T TT t) := by
  constructor
  intro pins s σ H Q I h
  obtain ⟨hT, h⟩ := h
  apply wpAny_Call_Name_kw (ld_glob I hg hm _ n0)
  apply PySem.W.callWith_K (h₀ := X.base) I.ok.mod.kin hk _ (by rfl) (by rfl)
  show wpAny _ _ (spliced ((false, eval (.Lambda params body scope lpos) X.env) :: backTo pos (starEach [] X.env))) _ _ s
  apply Calls.spliced_cons
  apply lam_make2 I TB co mT uT hT df (L.has I.ok)
  intro f c' pm' ctv H1 s' I1 eN T1 hf nf ff hco
  apply Calls.spliced_nil
  refine And.intro I1.kIn ?_
  have rc : codeAny (model X.prog X.w) X.A (.call (.ref g) ⟨[.ref f], []⟩) (CR CX0 X.stack X.prog X.w H1 s' Q E0) s' := by
    apply run_ofS (N := Ng) (ps := [a]) (us := [.ref f]) (vs := [.ref f]) lk hcg Sg hr I1.env0 (hb s' [.ref f] I1.kIn rfl) (.cons rfl .nil) rfl
    intro hr'
    obtain ⟨t', h1, h2⟩ := hG f c' s' H1 Q (fun E H' Q' => t E σ H' Q') (fun W pn xe p1 p2 tk => pe_act0 (i := 0) (tb := t) I1 L hf nf ff bd tk hr' (fun E A outer s H hr2 => hbody A outer s H E f c' hr2) hNg hva n1 n2) hco (h H1 eN T1)
    exact ⟨t', h1.nox, h2⟩
  apply wpAny_call
  apply codeAny_mono rc
  intro r s2 hq
  cases r with
  | error e => exact (show False from hq).elim
  | ok fl =>
    cases fl with
    | ret u => exact I1.after hq
    | next => exact False.elim hq
    | brk => exact False.elim hq
    | cont => exact False.elim hq
end
end HL
/-! the end of a row whose law makes lambdas: one table of code objects, nothing guards ahead -/
namespace HT0
open PySem PySem.Spec PyProof.Rows L2 HG LamX
/-- a def whose code object is known -/
theorem fn_gc {P : Program} {w : World} {K : PySem.W.Frag} {mg : Str → Option Value} {base : Heap} {CX : CXT} {k : Nat} {f : Addr} {fd : FuncData} {ps : List Str} {sp : Sp} {x qual : Str} {st : Stmt} {N : List Str} {cv : Value} (F : Fun K x qual st f fd) (known : fd.code = cv)
    (S : FnScope N ps (defScope st)) (len : ∀ vs H Q E, sp vs H Q E → vs.length = ps.length)
    (hb : ∀ (A : Around) (ou : List Env) (s : Shared) (H : Hp) (vs : List V) (Q : VK) (E : XK), (A.deeper (envOfC qual (defScope st) s.heap.objs.size f cv)).guards = some [] →
      Room k (A.deeper (envOfC qual (defScope st) s.heap.objs.size f cv)) → sp vs H Q E →
      ∃ t, PSs (cxOf CX P w K mg base N qual (defScope st) f cv A ou s H E) (defBody st) t ∧ t { nx := fun _ H' => Q .non H', rt := Q } (start N vs) H) :
    FnG P w K mg base CX (k + 1) f fd ps sp := by
  obtain ⟨oc, od, kV, doc, pm, an, c2, ct, osl, rfl, lk, hcd⟩ := F.ex
  have kn : c2 = cv := known
  subst kn
  constructor
  · exact len
  intro A ou s H ar us vs Q E g room e0 binds rv q0
  have h1 := len vs H Q E q0
  have h2 : K.In s.heap := e0.mod.kin.keeps (fun b o z => (e0.bs b o z).1)
  have h3 : s.heap.NoLimit := e0.mod.nolimit.keeps (fun b o z => (e0.bs b o z).1)
  have h4 : ∀ y ∈ ps.zip us, (defScope st).names.lookup y.1 = some .local ∨ ((defScope st).names.lookup y.1 = some .cell ∧ ((cellsFrom (s.heap.objs.size + 1) (defScope st).names []).lookup y.1).isSome = true) := by
    intro y hy
    have hm := (List.of_mem_zip (show (y.1, y.2) ∈ ps.zip us from hy)).1
    cases S.par y.1 hm with
    | inl q => exact Or.inl q
    | inr q => exact Or.inr ⟨q, PySem.W.cellsFrom_some _ _ _ (Or.inl q)⟩
  apply codeAny_call_function room.depth (h2 _ _ lk) rfl S.co S.gen rfl (PySem.W.codeRec_of h2 hcd)
  apply binds
  apply wpAny_newFunctionEnv_cells S.kind h4
  intro env heq s1 ic
  cases heq
  refine And.intro (Heap.NoLimit.keeps h3 ic.toInCall.keep) (codeAny_func ?_)
  cases hb A ou s H vs Q E g (Room.deeper room _) q0 with
  | intro t ht =>
    have J0 := inv_start (CX := CX) (E := E) S room.hd e0 h1 rv ic
    apply wpAny_mono (ht.1.run [] s1 (start N vs) H _ J0 ht.2)
    · intro fl s2 z
      cases fl with
      | ret u => exact let ⟨v, _, H2, J, r, q⟩ := z; ⟨v, H2, J.os, J.bare, J.base, J.hok, r, q⟩
      | next => exact let ⟨_, H2, J, q⟩ := z; ⟨V.non, H2, J.os, J.bare, J.base, J.hok, (rfl : Value.none = Value.none), q⟩
      | brk => exact let ⟨_, _, _, q⟩ := z; q.elim
      | cont => exact let ⟨_, _, _, q⟩ := z; q.elim
    · exact fun _ _ z => z
theorem tab_code {K : PySem.W.Frag} {x : Str} {f c T0 : Addr} {oc : Value} {od : Option Addr} {fd : FuncData} {sl : Array (Option Value)} (ht : PySem.W.tabIn K x = some (c, T0)) (a : PySem.W.nsIn K mainGlobals x = some (some (.ref f))) (l : K.lookup f = some ⟨oc, od, .func fd, sl⟩) : fd.code = .ref c := by
  unfold PySem.W.tabIn at ht
  rw [a] at ht
  dsimp only at ht
  rw [l] at ht
  dsimp only at ht
  split at ht
  · next c2 e =>
    rw [e]
    split at ht
    · split at ht
      · cases ht
        rfl
      · cases ht
    · cases ht
  · cases ht
/-- the heap as a law's def finds it: the script, an empty table -/
def ScrT (K : PySem.W.Frag) (a T0 : Addr) (vs : List Value) (ns : List Int) : Hp := fun b => if b = T0 then some (.tbl #[]) else ScrH K a vs ns b
theorem scrT_some {K : PySem.W.Frag} {a T0 b : Addr} {vs : List Value} {ns : List Int} {u : HO} (h : ScrT K a T0 vs ns b = some u) : (b = T0 ∧ u = .tbl #[]) ∨ (b = a ∧ K.lookup a = none ∧ u = .frz { cls := .type "list", data := .seq vs.toArray } (.lst (ns.map V.int))) := by
  unfold ScrT at h
  by_cases q : b = T0
  · rw [if_pos q] at h
    exact .inl ⟨q, (Option.some.inj h).symm⟩
  · rw [if_neg q] at h
    exact .inr (scrH_some h)
theorem law_gT {P : Program} {w : World} {K : PySem.W.Frag} {mg mb : Str → Option Value} {CX : CXT} {k : Nat} {fa a c T0 : Addr} {fd : FuncData} {x : Str} {sp : Sp} {s₁ : Shared} {vs : List Value} {ns : List Int}
    (KX : K.In s₁.heap) (n1 : s₁.heap.Ns mainGlobals mg) (n2 : s₁.heap.Ns builtinsNs mb) (n3 : ∀ x : Str, x ≠ "__name__" → mb x = bootBuiltins x) (n4 : s₁.heap.NoLimit) (n5 : s₁.gens = #[])
    (t1 : s₁.heap.get? T0 = some { cls := .none, data := .fields #[] }) (t2 : K.lookup T0 = none) (t3 : PySem.W.CodeHd s₁.heap c T0)
    (t4 : ∃ (bm : Addr) (ob : Obj), mg "__builtins__" = some (.ref bm) ∧ bm ≠ builtinsNs ∧ s₁.heap.get? bm = some ob ∧ ob.cls = .type "module" ∧ ob.dict = some builtinsNs ∧ ob.data = .plain)
    (ha : s₁.heap.get? a = some { cls := .type "list", data := .seq vs.toArray }) (hi : IntsAre vs ns) (hl : ns.length ≤ sizeLine) (hr : Room k callerA)
    (F : ∀ base : Heap, K.In base → base.Ns mainGlobals mg → TabB base mg c T0 → FnG P w K mg base CX k fa fd [x] sp) (bi : ∀ (s : Shared) (u : Value), BindsTo s fd ⟨[u], []⟩ [(x, u)])
    (hsp : ∀ H : Hp, H T0 = some (.tbl #[]) → SqL K H a (ns.map V.int) → sp [.ref a] H (fun v _ => v = .bl true) fun _ _ _ => False)
    (hCX : ∀ H e s', CX [] H s₁ (fun _ _ _ => False) e s' → False) :
    codeAny (model P w) callerA (.call (.ref fa) ⟨[.ref a], []⟩) (fun r s' => r = .ok (.ret (.bool true)) ∧ OldK s₁.heap s'.heap ∧ s'.os = s₁.os ∧ AllBare s'.gens) s₁ := by
  have rv := vals_ints hi
  have lv := hi.length
  have aT : a ≠ T0 := fun z => by
    rw [z, t1] at ha
    exact nomatch (congrArg Obj.data (Option.some.inj ha))
  let H : Hp := ScrT K a T0 vs ns
  have hH : ∀ {b : Addr} {u : HO}, H b = some u → (b = T0 ∧ u = .tbl #[]) ∨ (b = a ∧ K.lookup a = none ∧ u = .frz { cls := .type "list", data := .seq vs.toArray } (.lst (ns.map V.int))) := fun h => scrT_some h
  have hT : H T0 = some (.tbl #[]) := if_pos rfl
  have hS : SqL K H a (ns.map V.int) := by
    cases hk : K.lookup a with
    | none => exact .inl (.inr ⟨_, (if_neg aT).trans (if_pos ⟨rfl, hk⟩)⟩)
    | some o =>
      have e := KX a o hk
      rw [ha] at e
      cases e
      exact .inr ⟨_, vs.toArray, _, hk, rfl, rfl, rfl, by rw [List.size_toArray, lv]; exact hl, by simpa using rv⟩
  have hok : HOk P w H s₁.heap := fun b u q => by
    rcases hH q with ⟨rfl, rfl⟩ | ⟨rfl, _, rfl⟩
    · exact t1
    · exact ⟨ha, by rw [List.length_map]; exact hl, vs, _, rv, ha⟩
  -- what is neither a list nor an empty record is not told of
  have free : ∀ {b : Addr} {o : Obj}, s₁.heap.get? b = some o → (∀ v n, o.data ≠ .seq v n) → o.data ≠ .fields #[] → H b = none := fun {b o} z d1 d2 => by
    cases q : H b with
    | none => rfl
    | some u =>
      rcases hH q with ⟨rfl, _⟩ | ⟨rfl, _, _⟩
      · rw [t1] at z
        cases z
        exact (d2 rfl).elim
      · rw [ha] at z
        cases z
        exact (d1 _ _ rfl).elim
  have dictFree : ∀ {b : Addr} {o : Obj} {es : Array DictEntry} {ep : Nat}, s₁.heap.get? b = some o → o.data = .dict es ep → H b = none := fun {b o es ep} z d => free z (fun v n y => by rw [d] at y; cases y) (fun y => by rw [d] at y; cases y)
  have ns' : ∀ {b : Addr} {m : Str → Option Value}, s₁.heap.Ns b m → (hidT s₁.heap H).Ns b m := fun ⟨o, es, ep, z, d, r⟩ => ⟨o, es, ep, hidT_get z (dictFree z d), d, r⟩
  have kin : K.In (hidT s₁.heap H) := fun b o z => hidT_get (KX b o z) (by
    cases q : H b with
    | none => rfl
    | some u =>
      rcases hH q with ⟨rfl, _⟩ | ⟨rfl, y, _⟩
      · rw [t2] at z
        cases z
      · rw [y] at z
        cases z)
  have lim : (hidT s₁.heap H).NoLimit := let ⟨mc, y1, y2⟩ := n4; ⟨mc, ns' y1, y2⟩
  have gT : mainGlobals ≠ T0 := fun z => by
    obtain ⟨o, es, ep, y1, y2, _⟩ := n1
    rw [z, t1] at y1
    cases y1
    exact nomatch y2
  have tb : TabB (hidT s₁.heap H) mg c T0 := by
    refine ⟨?_, ?_, gT⟩
    · rcases t3 with ⟨oc, w1, w2, w3, w4, w5, w6, w7, w8, q0, q1, q2, q3, qs⟩
      exact ⟨oc, w1, w2, w3, w4, w5, w6, w7, w8, hidT_get q0 (free q0 (fun v n y => by rw [q2] at y; cases y) fun y => by
        rw [q2] at y
        cases y
        simp at q3), q1, q2, q3, qs⟩
    · rcases t4 with ⟨bm, ob, m1, m2, m3, m4, m5, m6⟩
      have g1 : bm ≠ mainGlobals := fun z => by
        obtain ⟨o, es, ep, y1, y2, _⟩ := n1
        rw [← z, m3] at y1
        cases y1
        rw [m6] at y2
        cases y2
      have g2 : bm ≠ T0 := fun z => by
        rw [z, t1] at m3
        cases m3
        cases m6
      exact ⟨bm, ob, m1, m2, g1, g2, hidT_get m3 (free m3 (fun v n y => by rw [m6] at y; cases y) fun y => by rw [m6] at y; cases y), m4, m5, m6⟩
  have e0 : Env0 P w K mg (hidT s₁.heap H) callerA [] s₁ H :=
    { frames := rfl, mod := ⟨kin, ns' n1, ⟨mb, ns' n2, n3⟩, lim⟩, bs := fun b o z => of_hidT z, bsz := Nat.le_of_eq (hidT_size _ _), funs := trivial, frf := fun b hb => (List.not_mem_nil hb).elim, hok := hok, bare := .of_eq n5 }
  apply codeAny_mono ((F _ kin (ns' n1) tb).go callerA [] s₁ H ⟨[.ref a], []⟩ [.ref a] [.ref a] _ _ rfl hr e0 (bi s₁ (.ref a)) (.cons rfl .nil) (hsp H hT hS))
  intro r s2 z
  cases r with
  | error e => exact (hCX H e s2 z).elim
  | ok fl =>
    cases fl with
    | next => exact z.elim
    | brk => exact z.elim
    | cont => exact z.elim
    | ret u =>
      obtain ⟨v, H2, os, bare, un, hok2, r2, q⟩ := z
      cases (show v = .bl true from q)
      cases (show u = Value.bool true from r2)
      have old : ∀ b o, b ≠ T0 → s₁.heap.get? b = some o → s2.heap.get? b = some o := fun b o bt y => by
        cases qb : H b with
        | none => exact un.keep b o y qb List.not_mem_nil List.not_mem_nil
        | some u =>
          rcases hH qb with ⟨y0, _⟩ | ⟨rfl, _, rfl⟩
          · exact (bt y0).elim
          · have y2 := (hok2 b _ (un.frzs b _ _ qb)).1
            rw [ha] at y
            cases y
            exact y2
      obtain ⟨more, hm⟩ := un.tbls T0 #[] hT
      have hm2 : s2.heap.get? T0 = some { cls := .none, data := .fields (#[] ++ more) } := hok2 T0 _ hm
      rw [Array.empty_append] at hm2
      refine And.intro rfl (And.intro ⟨fun b o y => ?_, fun b o y => ?_⟩ (And.intro os bare))
      · by_cases bt : b = T0
        · subst bt
          rw [t1] at y
          cases y
          exact .inr (.inl ⟨(t3.tab t1).isCodeTable, rfl, #[], more, rfl, by rw [Array.empty_append]; exact hm2⟩)
        · exact .inl (old b o bt y)
      · by_cases bt : b = T0
        · exact ⟨_, bt ▸ hm2⟩
        · exact ⟨o, old b o bt y⟩
theorem walk_gT {l : PySem.W.OpenLaw} {n k : Nat} {q : Program} {loose : List Str} {XP : (Str → Option Value) → Heap → Prop} {YP : World → Heap → Prop} {d : DefRec} {K : Params → PySem.W.Frag} {CX : World → CXT} {sp : World → Addr → Sp} {x : Str}
    (hn : l.most = some n) (hn2 : n ≤ sizeLine) (hdf : d.params.defaults = []) (hr : Room k callerA) (rec : (recsOf q).find? (fun e => e.name == d.name) = some d)
    (hY : ∀ (w : World) (h : Heap), YP w h → (K w.params).In h)
    (F : ∀ (w : World) (mg : Str → Option Value) (fa : Addr) (h : Heap), (K w.params).In h → h.Ns mainGlobals mg → mg d.name = some (.ref fa) →
      ∃ (fd : FuncData) (c T0 : Addr), PySem.W.tabIn (K w.params) d.name = some (c, T0) ∧ (K w.params).lookup T0 = none ∧ (∀ (s : Shared) (u : Value), BindsTo s fd ⟨[u], []⟩ [(x, u)]) ∧
        ∀ base : Heap, (K w.params).In base → base.Ns mainGlobals mg → TabB base mg c T0 → FnG l.prog w (K w.params) mg base (CX w) k fa fd [x] (sp w T0))
    (hsp : ∀ (w : World) (T0 : Addr) (H : Hp) (a : Addr) (ns : List Int), ns.length ≤ n → H T0 = some (.tbl #[]) → SqL (K w.params) H a (ns.map V.int) → sp w T0 [.ref a] H (fun v _ => v = .bl true) fun _ _ _ => False)
    (hCX : ∀ (w : World) (H : Hp) (s : Shared) (e : Value) (s' : Shared), CX w [] H s (fun _ _ _ => False) e s' → False) :
    PySem.W.WalkO q loose XP YP l.row.toRowW d [] (fun f vs => PySem.call f vs) := by
  apply Att.attach_call hn hdf
  intro w s₀ s₁ mg mb fa o pm cd doc a vs ns G Y _ _ _ hmg ho hi hl hg
  obtain ⟨fd, c, T0, y1, y2, y3, y4⟩ := F w mg fa _ (hY w _ Y) G.T.g hmg
  obtain ⟨y5, y6⟩ := PySem.W.tab_of G.T (hY w _ Y) rec y1
  exact law_gT (hY w _ Y) G.T.g G.T.b G.T.builtins G.T.nolimit hg y6 y2 y5 G.T.bmain ho hi (Nat.le_trans hl hn2) hr y4 y3 (fun H z1 z2 => hsp w T0 H a ns hl z1 z2) (fun H e s2 => hCX w H s₁ e s2)
end HT0
namespace K18
open PySem PySem.Spec PyProof.Rows L2 HR SX
def topS (i : Nat) : Stmt := PySem.Challenge.pw_roomstair_k18_what_lies_beyond.main.body.getD i (.Pass ⟨0, 0, 0, 0⟩)
abbrev s_is_integer : Stmt := topS 1
theorem sc_is_integer : FnScope ["value"] ["value"] (defScope s_is_integer) := ⟨rfl, rfl, rfl, by decide +kernel, rfl, by decide +kernel, by decide +kernel⟩
abbrev s_is_within : Stmt := topS 2
theorem sc_is_within : FnScope ["value", "least", "most"] ["value", "least", "most"] (defScope s_is_within) := ⟨rfl, rfl, rfl, by decide +kernel, rfl, by decide +kernel, by decide +kernel⟩
abbrev s_is_list : Stmt := topS 3
theorem sc_is_list : FnScope ["value"] ["value"] (defScope s_is_list) := ⟨rfl, rfl, rfl, by decide +kernel, rfl, by decide +kernel, by decide +kernel⟩
abbrev s_is_row : Stmt := topS 14
theorem sc_is_row : FnScope ["value", "sign"] ["value"] (defScope s_is_row) := ⟨rfl, rfl, rfl, by decide +kernel, rfl, by decide +kernel, by decide +kernel⟩
abbrev s_want_row : Stmt := topS 15
theorem sc_want_row : FnScope ["value", "part"] ["value", "part"] (defScope s_want_row) := ⟨rfl, rfl, rfl, by decide +kernel, rfl, by decide +kernel, by decide +kernel⟩
abbrev s_size_of : Stmt := topS 16
theorem sc_size_of : FnScope ["row"] ["row"] (defScope s_size_of) := ⟨rfl, rfl, rfl, by decide +kernel, rfl, by decide +kernel, by decide +kernel⟩
abbrev s_lies_below : Stmt := topS 17
theorem sc_lies_below : FnScope ["one", "other", "place"] ["one", "other"] (defScope s_lies_below) := ⟨rfl, rfl, rfl, by decide +kernel, rfl, by decide +kernel, by decide +kernel⟩
abbrev s_is_chain : Stmt := topS 19
theorem sc_is_chain : FnScope ["value", "at"] ["value"] (defScope s_is_chain) := ⟨rfl, rfl, rfl, by decide +kernel, rfl, by decide +kernel, by decide +kernel⟩
abbrev s_is_full : Stmt := topS 20
theorem sc_is_full : FnScope ["value", "many", "row"] ["value"] (defScope s_is_full) := ⟨rfl, rfl, rfl, by decide +kernel, rfl, by decide +kernel, by decide +kernel⟩
abbrev s_want_full : Stmt := topS 21
theorem sc_want_full : FnScope ["value", "part"] ["value", "part"] (defScope s_want_full) := ⟨rfl, rfl, rfl, by decide +kernel, rfl, by decide +kernel, by decide +kernel⟩
abbrev s_row_beyond : Stmt := topS 23
theorem sc_row_beyond : FnScope ["chain", "index", "row", "lower", "upper", "below", "here", "above"] ["chain", "index"] (defScope s_row_beyond) := ⟨rfl, rfl, rfl, by decide +kernel, rfl, by decide +kernel, by decide +kernel⟩
abbrev s_beyond : Stmt := topS 24
theorem sc_beyond : FnScope ["chain", "index", "row"] ["chain", "index"] (defScope s_beyond) := ⟨rfl, rfl, rfl, by decide +kernel, rfl, by decide +kernel, by decide +kernel⟩
/-! ### bounds, rows -/
def withinV (v : V) (lo hi : Int) : Bool := match v with
  | .int i => decide (lo ≤ i) && decide (i ≤ hi)
  | _ => false
def sgn (c : Nat) : Bool := c == 43 || (c == 45 || c == 48)
def rowL (l : List Nat) : Bool := decide (l.length ≤ 12) && (l.all sgn && (decide (43 ∈ l) || decide (45 ∈ l)))
def rowV : V → Bool
  | .str z => rowL z.cps.toList
  | _ => false
def isStrV : V → Bool
  | .str _ => true
  | _ => false
theorem isS_of {K : PySem.W.Frag} {H : Hp} {v : V} (a : PV H v) : ∃ t, TyX K H v t ∧ PySem.W.kitOne K t (.type "str") = some (isStrV v) := by
  rcases a with ⟨i, rfl⟩ | rfl | ⟨b, rfl⟩ | ⟨x, rfl⟩ | ⟨p, rfl, ⟨x, h⟩ | ⟨x, h⟩ | ⟨x, h⟩⟩
  · exact ⟨_, .base (.int i), kit_ty (r := false) (by decide +kernel)⟩
  · exact ⟨_, .base .non, kit_ty (r := false) (by decide +kernel)⟩
  · exact ⟨_, .base (.bl b), kit_ty (r := false) (by decide +kernel)⟩
  · exact ⟨_, .base (.str x), kit_ty (r := true) (by decide +kernel)⟩
  · exact ⟨_, .base (.lst h), kit_ty (r := false) (by decide +kernel)⟩
  · exact ⟨_, .base (.tup h), kit_ty (r := false) (by decide +kernel)⟩
  · exact ⟨_, .base (.dK h), kit_ty (r := false) (by decide +kernel)⟩
abbrev signs3 : List V := [.str "+", .str "-", .str "0"]
theorem sign_in (c : Nat) : inV (.str ⟨#[c]⟩) signs3 = sgn c := by
  show (eqV (.str ⟨#[43]⟩) (.str ⟨#[c]⟩) || (eqV (.str ⟨#[45]⟩) (.str ⟨#[c]⟩) || (eqV (.str ⟨#[48]⟩) (.str ⟨#[c]⟩) || false))) = (c == 43 || (c == 45 || c == 48))
  have e : ∀ d : Nat, eqV (.str ⟨#[d]⟩) (.str ⟨#[c]⟩) = (c == d) := fun d => by
    show ((⟨#[d]⟩ : Str) == ⟨#[c]⟩) = (c == d)
    by_cases h : c = d
    · subst h
      rw [beq_self_eq_true, beq_self_eq_true]
    · rw [beq_eq_false_iff_ne.mpr h]
      refine beq_eq_false_iff_ne.mpr fun z => h ?_
      have z2 : (#[d] : Array Nat) = #[c] := congrArg (·.cps) z
      have z3 : ([d] : List Nat) = [c] := congrArg (·.toList) z2
      exact (List.cons.inj z3).1.symm
  rw [e, e, e, Bool.or_false]
section
variable {P : Program} {w : World} {K : PySem.W.Frag} {mg : Str → Option Value} {base : Heap}
def spInt : Sp := fun vs H Q _ => ∃ v, vs = [v] ∧ PV H v ∧ Q (.bl (isIntV v)) H
theorem ok_is_integer (T : HG.Tp K mg "is_integer" s_is_integer ["value"]) (m_isinstance : mg "isinstance" = none) (m_int : mg "int" = none) (m_bool : mg "bool" = none) : FnOk P w K mg base CX0 1 T.f T.fd ["value"] spInt := by
  refine T.F.ok sc_is_integer (fun vs H Q E h => ?_) (fun cdv A outer s H vs Q E hr h => ?_)
  · obtain ⟨v, rfl, _⟩ := h
    rfl
  · obtain ⟨v, rfl, hv, q⟩ := h
    obtain ⟨t, b1, b2, ty, k1, k2, e⟩ := isI_of (K := K) hv
    refine ⟨_, (pss_one (ps_ret (pe_and (pe_callB call_isi (by rfl) m_isinstance (by decide +kernel) (pa_cons (pv 0) (pa_cons (HG.pe_ty (T := "int") (by rfl) m_int (by decide +kernel)) pa_nil))) (pe_one (pe_not (pe_callB call_isi (by rfl) m_isinstance (by decide +kernel) (pa_cons (pv 0) (pa_cons (HG.pe_ty (T := "bool") (by rfl) m_bool (by decide +kernel)) pa_nil)))))))), ?_⟩
    refine ⟨v, rfl, v, _, t, _, b1, rfl, ClsV.ty "int", ty, k1, b1, rfl, ?_⟩
    rw [e] at q
    cases b1 with
    | true =>
      refine iteT ?_
      exact ⟨v, rfl, v, _, t, _, b2, rfl, ClsV.ty "bool", ty, k2, b2, rfl, q⟩
    | false => exact iteF q
def spList : Sp := fun vs H Q _ => ∃ v, vs = [v] ∧ PV H v ∧ ∀ b H', (b = true ↔ SeqV H v) → Grow H H' → Q (.bl b) H'
theorem ok_is_list (T : HG.Tp K mg "is_list" s_is_list ["value"]) (m_isinstance : mg "isinstance" = none) (m_list : mg "list" = none) (m_tuple : mg "tuple" = none) : FnOk P w K mg base CX0 1 T.f T.fd ["value"] spList := by
  refine T.F.ok sc_is_list (fun vs H Q E h => ?_) (fun cdv A outer s H vs Q E hr h => ?_)
  · obtain ⟨v, rfl, _⟩ := h
    rfl
  · obtain ⟨v, rfl, hv, q⟩ := h
    refine ⟨_, (pss_one (ps_ret (pe_callB call_isiT (by rfl) m_isinstance (by decide +kernel) (pa_cons (pv 0) (pa_cons (pe_tup (pa_cons (HG.pe_ty (T := "list") (by rfl) m_list (by decide +kernel)) (pa_cons (HG.pe_ty (T := "tuple") (by rfl) m_tuple (by decide +kernel)) pa_nil))) pa_nil))))), ?_⟩
    refine ⟨v, rfl, by show 2 ≤ sizeLine; decide, fun p np => ?_⟩
    have g : Grow H (upd H p (.tup [.ty "list", .ty "tuple"])) := Grow.new np
    obtain ⟨t, b, ty, hk, hb⟩ := kit_seq (K := K) (hv.grow g)
    refine ⟨v, p, _, t, _, b, rfl, upd_same, .cons (ClsV.ty "list") (.cons (ClsV.ty "tuple") .nil), ty, hk, q b _ ?_ g⟩
    rw [hb]
    constructor
    · rintro ⟨r, xs, rfl, h⟩
      rcases hv with ⟨i, z⟩ | z | ⟨b, z⟩ | ⟨x, z⟩ | ⟨p2, z, ⟨x, h2⟩ | ⟨x, h2⟩ | ⟨x, h2⟩⟩
      · cases z
      · cases z
      · cases z
      · cases z
      · cases z
        exact ⟨r, x, rfl, .inl h2⟩
      · cases z
        exact ⟨r, x, rfl, .inr h2⟩
      · cases z
        rw [g _ _ h2] at h
        rcases h with h | h <;> cases h
    · rintro ⟨r, xs, rfl, h⟩
      exact ⟨r, xs, rfl, h.elim (fun h => .inl (g _ _ h)) (fun h => .inr (g _ _ h))⟩

def spWithin : Sp := fun vs H Q _ => ∃ v lo hi, vs = [v, .int lo, .int hi] ∧ PV H v ∧ Q (.bl (withinV v lo hi)) H
theorem ok_is_within (T : HG.Tp K mg "is_within" s_is_within ["value", "least", "most"]) (o_is_integer : HG.Df P w K mg base CX0 1 "is_integer" ["value"] spInt) : FnOk P w K mg base CX0 2 T.f T.fd ["value", "least", "most"] spWithin := by
  refine T.F.ok sc_is_within (fun vs H Q E h => ?_) (fun cdv A outer s H vs Q E hr h => ?_)
  · obtain ⟨v, lo, hi, rfl, _⟩ := h
    rfl
  · obtain ⟨v, lo, hi, rfl, hv, q⟩ := h
    refine ⟨_, (pss_cons (ps_if (pt_not (pt_val (HG.pe_c o_is_integer hr (pa_cons (pv 0) pa_nil))))
      (pss_one (ps_ret pe_bl))
      pss_nil)
    (pss_cons (ps_if (PW.pt (pw_and (pt_cmpR op_notN (pv 1) pe_non (nomark _)) (pw_and1 (pt_cmpR op_lt (pv 0) (pv 1) (nomark _)))))
      (pss_one (ps_ret pe_bl))
      pss_nil)
    (pss_one (ps_ret (pe_or (pe_cmpR op_isN (pv 2) pe_non (nomark _)) (pe_one (pe_cmpR op_le (pv 0) (pv 2) (nomark _)))))))), ?_⟩
    refine ⟨v, rfl, v, rfl, hv, _, rfl, ?_⟩
    cases v with
    | int i =>
      refine iteF ?_
      refine ⟨_, rfl, rfl, _, rfl, ?_⟩
      refine iteT ?_
      refine ⟨_, rfl, _, rfl, _, _, rfl, rfl, _, rfl, ?_⟩
      refine ite2 (fun h => ?_) (fun h => ?_)
      · have h' : i < lo := of_decide_eq_true h
        have e : withinV (.int i) lo hi = false := by
          show (decide (lo ≤ i) && decide (i ≤ hi)) = false
          rw [decide_eq_false (by omega)]; rfl
        rw [e] at q
        exact q
      · have h' : ¬ i < lo := fun z => h (decide_eq_true z)
        refine ⟨_, rfl, rfl, _, rfl, ?_⟩
        refine iteF ?_
        have e : withinV (.int i) lo hi = decide (i ≤ hi) := by
          show (decide (lo ≤ i) && decide (i ≤ hi)) = _
          rw [decide_eq_true (by omega)]; rfl
        rw [e] at q
        exact ⟨_, rfl, _, rfl, _, _, rfl, rfl, q⟩
    | non => exact iteT q
    | bl b => exact iteT q
    | str z => exact iteT q
    | byt b => exact iteT q
    | flt b => exact iteT q
    | ref r => exact iteT q
    | ty n => exact iteT q
def spRow : Sp := fun vs H Q _ => ∃ v, vs = [v] ∧ PV H v ∧ (∀ z, v = .str z → z.length ≤ sizeLine) ∧ ∀ H', Grow H H' → Q (.bl (rowV v)) H'
theorem ok_is_row (T : HG.Tp K mg "is_row" s_is_row ["value"]) {tM : Tok} {aS : Addr} (m_MOST_PLACES : mg "MOST_PLACES" = some (.int 12 tM)) (m_SIGNS : mg "SIGNS" = some (.ref aS)) (k_SIGNS : ∀ H, SqT K H aS signs3)
    (m_isinstance : mg "isinstance" = none) (m_str : mg "str" = none) (m_len : mg "len" = none) (m_all : mg "all" = none) : FnOk P w K mg base CX0 1 T.f T.fd ["value"] spRow := by
  refine T.F.ok sc_is_row (fun vs H Q E h => ?_) (fun cdv A outer s H vs Q E hr h => ?_)
  · obtain ⟨v, rfl, _⟩ := h
    rfl
  · obtain ⟨v, rfl, hv, hz, q⟩ := h
    obtain ⟨t, ty, kt⟩ := isS_of (K := K) hv
    refine ⟨_, (pss_cons (ps_if (PW.pt (pw_or (pt_not (pt_val (pe_callB call_isi (by rfl) m_isinstance (by decide +kernel) (pa_cons (pv 0) (pa_cons (HG.pe_ty (T := "str") (by rfl) m_str (by decide +kernel)) pa_nil))))) (pw_or1 (pt_cmpR op_gt (pe_callB call_len_str (by rfl) m_len PySem.boot_len (pa_cons (pv 0) pa_nil)) (pe_glob (v := .int 12) (by rfl) m_MOST_PLACES ⟨_, rfl⟩) (nomark _)))))
      (pss_one (ps_ret pe_bl))
      pss_nil)
    (pss_cons (ps_if (pt_not (pt_val (pe_callB (cr_all rfl) (by rfl) m_all (by decide +kernel) (pa_cons (pe_lc (own := [("sign", 1)]) (by rfl) sc_is_row.nd (pi_str (pv 0)) (blkOk_by (N := ["value", "sign"]) (sc := defScope s_is_row) (by decide +kernel)) (fun _ _ _ _ _ => (pg_name (i := 1) sc_is_row.nd rfl (Or.inl rfl))) (fun _ _ _ _ _ => pts_nil) (fun _ _ _ _ _ => (pe_cmpR (HE.op_in_seqK K rfl) (pv 1) (pe_glob (v := .ref aS) (by rfl) m_SIGNS rfl) rfl))) pa_nil))))
      (pss_one (ps_ret pe_bl))
      pss_nil)
    (pss_one (ps_ret (pe_or (pe_cmpR op_in_sign pe_str (pv 0) rfl) (pe_one (pe_cmpR op_in_sign pe_str (pv 0) rfl))))))), ?_⟩
    refine ⟨v, rfl, v, _, t, _, _, rfl, ClsV.ty "str", ty, kt, _, rfl, ?_⟩
    cases v with
    | str z =>
      refine iteF ?_
      have hz1 := hz z rfl
      have el : z.length = z.cps.toList.length := by simp [Str.length]
      have er : rowV (.str z) = (decide (z.cps.toList.length ≤ 12) && (z.cps.toList.all sgn && (decide (43 ∈ z.cps.toList) || decide (45 ∈ z.cps.toList)))) := rfl
      refine ⟨_, rfl, z, rfl, hz1, _, _, rfl, rfl, _, rfl, ite2 (fun h => ?_) (fun h => ?_)⟩
      · have h' : (12 : Int) < (z.length : Int) := of_decide_eq_true h
        have e : rowV (.str z) = false := by rw [er, decide_eq_false (by omega)]; rfl
        have qq := q _ Grow.refl
        rw [e] at qq
        exact qq
      · have h' : ¬ (12 : Int) < (z.length : Int) := fun y => h (decide_eq_true y)
        rw [decide_eq_true (by omega), Bool.true_and] at er
        refine ⟨_, rfl, z, rfl, fun D nD => ?_⟩
        have fl : (z.cps.toList.map fun c => V.bl (sgn c)).length ≤ 1000 := by rw [List.length_map]; omega
        refine lc_it walk_str (LcI H D (z.cps.toList.map fun c => V.bl (sgn c))) (lc_start nD) (fun _ _ _ _ => True.intro) ?_ ?_
        · rintro i x H2 H3 hi a ⟨rfl, c, hc, rfl⟩
          have hc' : z.cps.toList[i]? = some c := by rw [Array.getElem?_toList]; exact hc
          refine ⟨rfl, ?_⟩
          refine ⟨_, rfl, aS, _, rfl, .inr (k_SIGNS _), rfl, rfl, ?_⟩
          refine lc_fin nD a Grow.refl ?_ fl
          rw [List.getElem?_map, hc', sign_in]
          rfl
        · rintro H2 a
          obtain ⟨g2, e2⟩ := lc_end a (by rw [List.length_map]; simp)
          refine ⟨D, z.cps.toList.map sgn, rfl, SqL.of (by rw [e2, List.map_map]; rfl), _, rfl, ?_⟩
          have e3 : (z.cps.toList.map sgn).all id = z.cps.toList.all sgn := by rw [List.all_map]; rfl
          rw [e3]
          have qq := q _ g2
          rw [er] at qq
          cases hs : z.cps.toList.all sgn with
          | false =>
            rw [hs] at qq
            exact iteT qq
          | true =>
            rw [hs, Bool.true_and] at qq
            refine iteF ?_
            refine ⟨_, rfl, 43, z, rfl, rfl, _, rfl, ite2 (fun h => ?_) (fun h => ?_)⟩
            · rw [h] at qq
              exact qq
            · rw [Bool.eq_false_iff.mpr h] at qq
              exact ⟨_, rfl, 45, z, rfl, rfl, qq⟩
    | int i => exact iteT (iteT (q _ Grow.refl))
    | non => exact iteT (iteT (q _ Grow.refl))
    | bl b => exact iteT (iteT (q _ Grow.refl))
    | byt b => exact iteT (iteT (q _ Grow.refl))
    | flt b => exact iteT (iteT (q _ Grow.refl))
    | ref r => exact iteT (iteT (q _ Grow.refl))
    | ty n => exact iteT (iteT (q _ Grow.refl))
end
end K18
namespace K18
open PySem PySem.Spec PyProof.Rows L2 HR SX
/-- a value, its text no endless one -/
def OKV (H : Hp) (v : V) : Prop := PV H v ∧ ∀ z, v = .str z → z.length ≤ sizeLine
theorem OKV.grow {H H' : Hp} {v : V} (a : OKV H v) (k : Grow H H') : OKV H' v := ⟨a.1.grow k, a.2⟩
theorem told_grow {E : XK} {C : Addr} {H H1 : Hp} {v : V} (h : HX.Told E C H v) (g : Grow H H1) : HX.Told E C H1 v := fun d H' k n e => h d H' (fun p o z => k p o (g p o z)) (by
  cases q : H d with
  | none => rfl
  | some o => rw [g d o q] at n; cases n) e
/-- want_..(value, part): by good -/
def spWant (C : Addr) (good : Hp → V → Bool → Prop) : Sp := fun vs H Q E => ∃ v x b, vs = [v, .str x] ∧ OKV H v ∧ good H v b ∧ (b = true → ∀ H', Grow H H' → Q .non H') ∧ (b = false → ∀ H', Grow H H' → HX.Told E C H' (.str x))
def gRow : Hp → V → Bool → Prop := fun _ v b => b = rowV v
def sizeL (l : List Nat) : Int := (l.length : Int) - cnt 48 l
def belowL (a b : List Nat) : Bool := decide (a.length = b.length) && (decide (a ≠ b) && (a.zip b).all fun p => p.1 == 48 || p.1 == p.2)
theorem eqV_one (d c : Nat) : eqV (.str ⟨#[d]⟩) (.str ⟨#[c]⟩) = (c == d) := by
  show ((⟨#[d]⟩ : Str) == ⟨#[c]⟩) = (c == d)
  by_cases h : c = d
  · subst h
    rw [beq_self_eq_true, beq_self_eq_true]
  · rw [beq_eq_false_iff_ne.mpr h]
    refine beq_eq_false_iff_ne.mpr fun z => h ?_
    have z2 : (#[d] : Array Nat) = #[c] := congrArg (·.cps) z
    have z3 : ([d] : List Nat) = [c] := congrArg (·.toList) z2
    exact (List.cons.inj z3).1.symm
theorem pair_in (c d : Nat) : inV (.str ⟨#[c]⟩) [.str "0", .str ⟨#[d]⟩] = (c == 48 || c == d) := by
  show (eqV (.str ⟨#[48]⟩) (.str ⟨#[c]⟩) || (eqV (.str ⟨#[d]⟩) (.str ⟨#[c]⟩) || false)) = _
  rw [eqV_one, eqV_one, Bool.or_false]
section
variable {P : Program} {w : World} {K : PySem.W.Frag} {mg : Str → Option Value} {base : Heap}
theorem ok_want_row (T : HG.Tp K mg "want_row" s_want_row ["value", "part"]) (o_is_row : HG.Df P w K mg base CX0 1 "is_row" ["value"] spRow) (e_BadRow : HX.Er P w K mg base "BadRow") :
    FnOk P w K mg base (L2.CX P w) 3 T.f T.fd ["value", "part"] (spWant e_BadRow.C gRow) := by
  refine T.F.okX sc_want_row (fun vs H Q E h => ?_) (fun cdv A outer s H vs Q E hr h => ?_)
  · obtain ⟨v, x, b, rfl, _⟩ := h
    rfl
  · obtain ⟨v, x, b, rfl, hv, rfl, q1, q2⟩ := h
    have tk : Takes (cxOf (L2.CX P w) P w K mg base ["value", "part"] "want_row" (defScope s_want_row) T.f cdv A outer s H E) (fun cls d _ H => E cls d H) := takes_of rfl rfl rfl rfl
    refine ⟨_, (pss_one (ps_if (pt_not (pt_val (HG.pe_c o_is_row hr (pa_cons (pv 0) pa_nil))))
      (pss_one (HX.ps_raise_er e_BadRow hr tk (pv 1)))
      pss_nil)), ?_⟩
    refine ⟨_, rfl, v, rfl, hv.1, hv.2, fun H1 g1 => ⟨_, rfl, ?_⟩⟩
    cases hb : rowV v with
    | true => exact iteF (q1 hb H1 g1)
    | false => exact iteT ⟨_, rfl, HX.raise_go (q2 hb H1 g1)⟩
def spSize (C : Addr) : Sp := fun vs H Q E => ∃ v, vs = [v] ∧ OKV H v ∧ (∀ z, v = .str z → rowL z.cps.toList = true → ∀ H', Grow H H' → Q (.int (sizeL z.cps.toList)) H') ∧ (rowV v = false → ∀ H', Grow H H' → HX.Told E C H' (.str "row"))
theorem ok_size_of (T : HG.Tp K mg "size_of" s_size_of ["row"]) {C : Addr} (o_want_row : HG.Df P w K mg base (L2.CX P w) 3 "want_row" ["value", "part"] (spWant C gRow)) (m_len : mg "len" = none) :
    FnOk P w K mg base (L2.CX P w) 4 T.f T.fd ["row"] (spSize C) := by
  refine T.F.okX sc_size_of (fun vs H Q E h => ?_) (fun cdv A outer s H vs Q E hr h => ?_)
  · obtain ⟨v, rfl, _⟩ := h
    rfl
  · obtain ⟨v, rfl, hv, q1, q2⟩ := h
    have tk : Takes (cxOf (L2.CX P w) P w K mg base ["row"] "size_of" (defScope s_size_of) T.f cdv A outer s H E) (fun cls d _ H => E cls d H) := takes_of rfl rfl rfl rfl
    refine ⟨_, (pss_cons (ps_expr (HG.pe_cS o_want_row hr tk (pa_cons (pv 0) (pa_cons pe_str pa_nil))))
    (pss_one (ps_ret (pe_op op_sub (pe_callB call_len_str (by rfl) m_len PySem.boot_len (pa_cons (pv 0) pa_nil)) (pe_bm PySem.F.plainAttrs_str PySem.F.slot_str_count PySem.F.type_str_count mt_count (pv 0) (pa_cons pe_str pa_nil)))))), ?_⟩
    refine ⟨_, rfl, v, _, _, rfl, hv, rfl, fun hb H1 g1 => ?_, fun hb H1 g1 => q2 hb H1 g1⟩
    obtain ⟨z, rfl⟩ : ∃ z, v = .str z := by
      cases v with
      | str z => exact ⟨z, rfl⟩
      | int i => cases hb
      | non => cases hb
      | bl b => cases hb
      | byt b => cases hb
      | flt b => cases hb
      | ref r => cases hb
      | ty n => cases hb
    refine ⟨_, rfl, z, rfl, hv.2 z rfl, _, rfl, rfl, z, _, rfl, rfl, _, _, rfl, rfl, ?_⟩
    have qq := q1 z rfl hb H1 g1
    have e1 : Txt.count z "0" = cnt 48 z.cps.toList := count_cnt z 48
    have e2 : z.length = z.cps.toList.length := by simp [Str.length]
    rw [e1, e2]
    exact qq
def spBelow : Sp := fun vs H Q _ => ∃ a b : Str, vs = [.str a, .str b] ∧ a.length ≤ 1000 ∧ b.length ≤ 1000 ∧ ∀ H', Grow H H' → Q (.bl (belowL a.cps.toList b.cps.toList)) H'
theorem ok_lies_below (T : HG.Tp K mg "lies_below" s_lies_below ["one", "other"]) (m_len : mg "len" = none) (m_all : mg "all" = none) (m_range : mg "range" = none) : FnOk P w K mg base CX0 1 T.f T.fd ["one", "other"] spBelow := by
  refine T.F.ok sc_lies_below (fun vs H Q E h => ?_) (fun cdv A outer s H vs Q E hr h => ?_)
  · obtain ⟨a, b, rfl, _⟩ := h
    rfl
  · obtain ⟨a, b, rfl, ha, hb, q⟩ := h
    refine ⟨_, (pss_cons (ps_if (PW.pt (pw_or (pt_cmpR op_ne (pe_callB call_len_str (by rfl) m_len PySem.boot_len (pa_cons (pv 0) pa_nil)) (pe_callB call_len_str (by rfl) m_len PySem.boot_len (pa_cons (pv 1) pa_nil)) (nomark _)) (pw_or1 (pt_cmpR op_eq (pv 0) (pv 1) (nomark _)))))
      (pss_one (ps_ret pe_bl))
      pss_nil)
    (pss_one (ps_ret (pe_callB (cr_all rfl) (by rfl) m_all (by decide +kernel) (pa_cons (pe_lc (own := [("place", 2)]) (by rfl) sc_lies_below.nd (pi_range1 rfl m_range (pa_cons (pe_callB call_len_str (by rfl) m_len PySem.boot_len (pa_cons (pv 0) pa_nil)) pa_nil)) (blkOk_by (N := ["one", "other", "place"]) (sc := defScope s_lies_below) (by decide +kernel)) (fun _ _ _ _ _ => (pg_name (i := 2) sc_lies_below.nd rfl (Or.inl rfl))) (fun _ _ _ _ _ => pts_nil) (fun _ _ _ _ _ => (pe_cmpR (HE.op_in_seqK K rfl) (pe_ix ix_str (pv 0) (pv 2) (fun _ _ => rfl)) (pe_tup (pa_cons pe_str (pa_cons (pe_ix ix_str (pv 1) (pv 2) (fun _ _ => rfl)) pa_nil))) rfl))) pa_nil))))), ?_⟩
    have sl := small1000 ha
    have sl2 := small1000 hb
    have la : a.length = a.cps.toList.length := by simp [Str.length]
    have lb : b.length = b.cps.toList.length := by simp [Str.length]
    refine ⟨_, rfl, a, rfl, by omega, _, rfl, b, rfl, by omega, rfl, _, rfl, ?_⟩
    refine ite2 (fun h => ?_) (fun h => ?_)
    · have e : belowL a.cps.toList b.cps.toList = false := by
        unfold belowL
        rw [decide_eq_false (fun z => by rw [la, lb, z, decide_eq_true rfl] at h; cases h)]
        rfl
      have qq := q H Grow.refl
      rw [e] at qq
      exact qq
    · have e0 : a.cps.toList.length = b.cps.toList.length := by
        by_cases z : a.cps.toList.length = b.cps.toList.length
        · exact z
        · refine absurd ?_ h
          rw [la, lb, decide_eq_false (fun y => z (by have := V.int.inj y; omega))]
          rfl
      refine ⟨_, rfl, _, rfl, rfl, _, rfl, ite2 (fun h2 => ?_) (fun h2 => ?_)⟩
      · have e2 : a = b := V.str.inj (of_decide_eq_true h2)
        have e : belowL a.cps.toList b.cps.toList = false := by
          unfold belowL
          rw [e2, decide_eq_true rfl, decide_eq_false (fun z => z rfl)]
          rfl
        have qq := q H Grow.refl
        rw [e] at qq
        exact qq
      · have e2 : a.cps.toList ≠ b.cps.toList := fun z => h2 (decide_eq_true (congrArg V.str (TL.ext_tl z)))
        have e : belowL a.cps.toList b.cps.toList = (a.cps.toList.zip b.cps.toList).all fun p => p.1 == 48 || p.1 == p.2 := by
          unfold belowL
          rw [decide_eq_true e0, decide_eq_true e2]
          rfl
        refine ⟨_, rfl, a, rfl, by omega, _, rfl, by omega, by omega, fun D nD => ?_⟩
        have hn : ((a.length : Int)).toNat = a.cps.toList.length := by omega
        rw [hn]
        have zl : ((a.cps.toList.zip b.cps.toList).map fun p => V.bl (p.1 == 48 || p.1 == p.2)).length = a.cps.toList.length := by
          rw [List.length_map, List.length_zip]; omega
        have fl : ((a.cps.toList.zip b.cps.toList).map fun p => V.bl (p.1 == 48 || p.1 == p.2)).length ≤ 1000 := by rw [zl]; omega
        refine lc_range (LcI H D ((a.cps.toList.zip b.cps.toList).map fun p => V.bl (p.1 == 48 || p.1 == p.2))) (lc_start nD) ?_ ?_
        · rintro i H2 hi ac
          have ca : a.cps.toList[i]? = some a.cps.toList[i] := List.getElem?_eq_getElem hi
          have cb : b.cps.toList[i]? = some (b.cps.toList[i]'(by omega)) := List.getElem?_eq_getElem (by omega)
          refine ⟨rfl, ?_⟩
          refine ⟨_, rfl, _, rfl, a, _, _, rfl, rfl, by omega, (by rw [show (0 + (i : Int)) = (i : Int) by omega]; exact atI_nat ca), ?_⟩
          refine ⟨_, rfl, _, rfl, b, _, _, rfl, rfl, by omega, (by rw [show (0 + (i : Int)) = (i : Int) by omega]; exact atI_nat cb), by show 2 ≤ sizeLine; decide, fun t nt => ?_⟩
          refine ⟨t, _, rfl, .inr (SqT.of upd_same), rfl, rfl, ?_⟩
          refine lc_fin nD ac (Grow.new nt) ?_ fl
          rw [List.getElem?_map, (List.getElem?_zip_eq_some (z := (a.cps.toList[i], b.cps.toList[i]'(by omega)))).mpr ⟨ca, cb⟩, pair_in]
          rfl
        · rintro H2 ac
          obtain ⟨g2, e2⟩ := lc_end ac (by rw [zl]; exact Nat.le_refl _)
          refine ⟨D, (a.cps.toList.zip b.cps.toList).map fun p => (p.1 == 48 || p.1 == p.2), rfl, SqL.of (by rw [e2, List.map_map]; rfl), ?_⟩
          have qq := q H2 g2
          rw [e] at qq
          rw [List.all_map]
          exact qq
end
end K18
namespace K18
open PySem PySem.Spec PyProof.Rows L2 HR SX
def strL : V → List Nat
  | .str z => z.cps.toList
  | _ => []
def stepV (x y : V) : Bool := rowV y && belowL (strL x) (strL y)
def chainT : List V → Bool
  | x :: y :: r => stepV x y && chainT (y :: r)
  | _ => true
def chainV : List V → Bool
  | [] => false
  | x :: r => rowV x && chainT (x :: r)
theorem chainT_iff : ∀ xs : List V, chainT xs = true ↔ ∀ i x y, xs[i]? = some x → xs[i + 1]? = some y → stepV x y = true
  | [] => ⟨fun _ i x y h => by simp at h, fun _ => rfl⟩
  | [a] => ⟨fun _ i x y h h2 => by simp at h2, fun _ => rfl⟩
  | a :: b :: r => by
    show (stepV a b && chainT (b :: r)) = true ↔ _
    rw [Bool.and_eq_true, chainT_iff (b :: r)]
    constructor
    · rintro ⟨h1, h2⟩ i x y hx hy
      cases i with
      | zero =>
        cases hx
        cases hy
        exact h1
      | succ i => exact h2 i x y hx hy
    · intro h
      exact ⟨h 0 a b rfl rfl, fun i x y hx hy => h (i + 1) x y hx hy⟩
theorem row_str {v : V} (h : rowV v = true) : ∃ z, v = .str z ∧ rowL z.cps.toList = true ∧ z.length ≤ 12 := by
  cases v with
  | str z =>
    refine ⟨z, rfl, h, ?_⟩
    have h1 : (decide (z.cps.toList.length ≤ 12) && (z.cps.toList.all sgn && (decide (43 ∈ z.cps.toList) || decide (45 ∈ z.cps.toList)))) = true := h
    rw [Bool.and_eq_true] at h1
    have := of_decide_eq_true h1.1
    simpa [Str.length] using this
  | int i => cases h
  | non => cases h
  | bl b => cases h
  | byt b => cases h
  | flt b => cases h
  | ref r => cases h
  | ty n => cases h
/-- a list or a tuple of these at p -/
def SeqAtP (H : Hp) (p : Addr) (xs : List V) : Prop := (H p = some (.lst xs) ∨ H p = some (.tup xs)) ∧ xs.length ≤ 1000 ∧ ∀ x ∈ xs, OKV H x
theorem SeqAtP.grow {H H' : Hp} {p : Addr} {xs : List V} (a : SeqAtP H p xs) (g : Grow H H') : SeqAtP H' p xs := ⟨a.1.imp (g _ _) (g _ _), a.2.1, fun x hx => (a.2.2 x hx).grow g⟩
theorem SeqAtP.sq {K : PySem.W.Frag} {H : Hp} {p : Addr} {xs : List V} (a : SeqAtP H p xs) : SqL K H p xs ∨ SqT K H p xs := a.1.imp SqL.of SqT.of
def spChain : Sp := fun vs H Q _ => ∃ v, vs = [v] ∧ PV H v ∧ ((¬ SeqV H v ∧ ∀ H', Grow H H' → Q (.bl false) H') ∨ ∃ p xs, v = .ref p ∧ SeqAtP H p xs ∧ ∀ H', Grow H H' → Q (.bl (chainV xs)) H')
theorem ix_at {K : PySem.W.Frag} {H : Hp} {p : Addr} {xs : List V} {i : Int} {v : V} (a : SeqAtP H p xs) (h : atI xs i = some v) {Q : VK} (q : Q v H) : rIx K (.ref p) (.int i) H Q := by
  rcases a.1 with h1 | h1
  · exact .inl ⟨p, xs, i, v, rfl, rfl, SqL.of h1, h, q⟩
  · exact .inr (.inl ⟨p, xs, i, v, rfl, rfl, SqT.of h1, h, q⟩)
section
variable {P : Program} {w : World} {K : PySem.W.Frag} {mg : Str → Option Value} {base : Heap}
theorem ok_is_chain (T : HG.Tp K mg "is_chain" s_is_chain ["value"]) (o_is_list : HG.Df P w K mg base CX0 1 "is_list" ["value"] spList) (o_is_row : HG.Df P w K mg base CX0 1 "is_row" ["value"] spRow) (o_lies_below : HG.Df P w K mg base CX0 1 "lies_below" ["one", "other"] spBelow)
    (m_len : mg "len" = none) (m_range : mg "range" = none) : FnOk P w K mg base CX0 2 T.f T.fd ["value"] spChain := by
  refine T.F.ok sc_is_chain (fun vs H Q E h => ?_) (fun cdv A outer s H vs Q E hr h => ?_)
  · obtain ⟨v, rfl, _⟩ := h
    rfl
  · obtain ⟨v, rfl, hv, h⟩ := h
    refine ⟨_, (pss_cons (ps_if (PW.pt (pw_or (pt_not (pt_val (HG.pe_c o_is_list hr (pa_cons (pv 0) pa_nil)))) (pw_or (pt_cmpR op_eq (pe_callB call_len_seq (by rfl) m_len PySem.boot_len (pa_cons (pv 0) pa_nil)) pe_int (nomark _)) (pw_or1 (pt_not (pt_val (HG.pe_c o_is_row hr (pa_cons (pe_ix ix_seq (pv 0) pe_int (fun _ _ => rfl)) pa_nil))))))))
      (pss_one (ps_ret pe_bl))
      pss_nil)
    (pss_cons (ps_for PassesOwn.never rfl (pi_range2 (by rfl) m_range (pa_cons pe_int (pa_cons (pe_callB call_len_seq (by rfl) m_len PySem.boot_len (pa_cons (pv 0) pa_nil)) pa_nil))) (pg_name (i := 1) sc_is_chain.nd rfl (Or.inl rfl))
      (pss_one (ps_if (PW.pt (pw_or (pt_not (pt_val (HG.pe_c o_is_row hr (pa_cons (pe_ix ix_seq (pv 0) (pv 1) (fun _ _ => rfl)) pa_nil)))) (pw_or1 (pt_not (pt_val (HG.pe_c o_lies_below hr (pa_cons (pe_ix ix_seq (pv 0) (pe_op op_sub (pv 1) pe_int) (fun _ _ => rfl)) (pa_cons (pe_ix ix_seq (pv 0) (pv 1) (fun _ _ => rfl)) pa_nil))))))))
        (pss_one (ps_ret pe_bl))
        pss_nil)))
    (pss_one (ps_ret pe_bl)))), ?_⟩
    refine ⟨_, rfl, v, rfl, hv, fun b H1 hb g1 => ⟨b, rfl, ?_⟩⟩
    rcases h with ⟨hn, q⟩ | ⟨p, xs, rfl, hp, q⟩
    · have eb : b = false := by
        cases b with
        | true => exact absurd (hb.mp rfl) hn
        | false => rfl
      subst eb
      exact iteT (iteT (q H1 g1))
    · have eb : b = true := hb.mpr ⟨p, xs, rfl, hp.1⟩
      subst eb
      refine iteF ?_
      have hp1 := hp.grow g1
      refine ⟨_, rfl, p, xs, rfl, hp1.sq, rfl, _, rfl, ite2 (fun h0 => ?_) (fun h0 => ?_)⟩
      · have e0 : xs = [] := by
          have e1 : ((xs.length : Nat) : Int) = 0 := V.int.inj (of_decide_eq_true h0)
          exact List.eq_nil_of_length_eq_zero (by omega)
        subst e0
        exact iteT (q H1 g1)
      · obtain ⟨x, r, rfl⟩ : ∃ x r, xs = x :: r := by
          cases xs with
          | nil => exact absurd (decide_eq_true rfl) h0
          | cons x r => exact ⟨x, r, rfl⟩
        have hx := hp1.2.2 x List.mem_cons_self
        refine ⟨_, rfl, ix_at hp1 (atI_nat (j := 0) rfl) ?_⟩
        refine ⟨x, rfl, hx.1, hx.2, fun H2 g2 => ⟨_, rfl, ?_⟩⟩
        have hp2 := hp1.grow g2
        cases hrow : rowV x with
        | false =>
          have qq := q H2 (g1.trans g2)
          rw [show chainV (x :: r) = (rowV x && chainT (x :: r)) from rfl, hrow] at qq
          exact iteT qq
        | true =>
          refine iteF ?_
          have en : ((((x :: r).length : Nat) : Int) - 1).toNat = r.length := by rw [List.length_cons]; omega
          have hlen : r.length + 1 ≤ 1000 := hp.2.1
          refine ⟨_, rfl, p, _, rfl, hp2.sq, 1, (((x :: r).length : Nat) : Int), rfl, ⟨by decide, by decide, by rw [List.length_cons]; omega, by rw [List.length_cons]; omega⟩, ?_⟩
          rw [en]
          refine for_range (lo := 1) (n := r.length) (fun i σ H3 => ∃ y, σ = [some (.ref p), y] ∧ Grow H2 H3 ∧ ∀ j, j < i → ∀ a b, (x :: r)[j]? = some a → (x :: r)[j + 1]? = some b → stepV a b = true) ⟨none, rfl, Grow.refl, fun j hj => absurd hj (Nat.not_lt_zero _)⟩ ?_ ?_
          · rintro i σ H3 hi ⟨y, rfl, g3, hs⟩
            have hp3 := hp2.grow g3
            have ha : (x :: r)[i]? = some ((x :: r)[i]'(by rw [List.length_cons]; omega)) := List.getElem?_eq_getElem _
            have hb : (x :: r)[i + 1]? = some ((x :: r)[i + 1]'(by rw [List.length_cons]; omega)) := List.getElem?_eq_getElem _
            generalize (x :: r)[i]'(by rw [List.length_cons]; omega) = va at ha
            generalize (x :: r)[i + 1]'(by rw [List.length_cons]; omega) = vb at hb
            have ra : rowV va = true := by
              cases i with
              | zero =>
                cases ha
                exact hrow
              | succ i =>
                have hc : (x :: r)[i]? = some ((x :: r)[i]'(by rw [List.length_cons]; omega)) := List.getElem?_eq_getElem _
                have := hs i (Nat.lt_succ_self _) _ _ hc ha
                exact ((Bool.and_eq_true _ _).mp this).1
            obtain ⟨za, rfl, _, la⟩ := row_str ra
            have okb := hp3.2.2 vb (List.mem_of_getElem? hb)
            have bad : stepV (.str za) vb = false → chainV (x :: r) = false := fun z => by
              rw [show chainV (x :: r) = (rowV x && chainT (x :: r)) from rfl]
              cases hc : chainT (x :: r) with
              | false => rw [Bool.and_false]
              | true =>
                have := (chainT_iff _).mp hc i _ _ ha hb
                rw [z] at this
                cases this
            have e1 : (1 + (i : Int)) = ((i + 1 : Nat) : Int) := by omega
            refine ⟨_, rfl, _, rfl, ?_⟩
            rw [e1]
            refine ix_at hp3 (atI_nat hb) ?_
            refine ⟨vb, rfl, okb.1, okb.2, fun H4 g4 => ⟨_, rfl, ?_⟩⟩
            have hp4 := hp3.grow g4
            have gg : Grow H H4 := ((g1.trans g2).trans g3).trans g4
            cases rb : rowV vb with
            | false =>
              have qq := q H4 gg
              rw [bad (by show (rowV vb && _) = false; rw [rb]; rfl)] at qq
              exact iteT (iteT qq)
            | true =>
              obtain ⟨zb, rfl, _, lb⟩ := row_str rb
              refine iteF ?_
              refine ⟨_, rfl, _, rfl, _, _, rfl, rfl, ?_⟩
              refine ix_at hp4 (by rw [show (((i + 1 : Nat) : Int) - 1) = (i : Int) by omega]; exact atI_nat ha) ?_
              refine ⟨_, rfl, _, rfl, ix_at hp4 (atI_nat hb) ?_⟩
              refine ⟨za, zb, rfl, by omega, by omega, fun H5 g5 => ⟨_, rfl, ?_⟩⟩
              cases hbl : belowL za.cps.toList zb.cps.toList with
              | false =>
                have qq := q H5 (gg.trans g5)
                rw [bad (by show (rowV (.str zb) && belowL za.cps.toList zb.cps.toList) = false; rw [hbl, Bool.and_false])] at qq
                exact iteT qq
              | true =>
                refine iteF ?_
                refine ⟨_, rfl, (g3.trans g4).trans g5, fun j hj a b ha2 hb2 => ?_⟩
                by_cases ej : j = i
                · subst ej
                  rw [ha] at ha2
                  rw [hb] at hb2
                  cases ha2
                  cases hb2
                  show (rowV (.str zb) && belowL za.cps.toList zb.cps.toList) = true
                  rw [hbl, rb]
                  rfl
                · exact hs j (by omega) a b ha2 hb2
          · rintro σ H3 ⟨y, rfl, g3, hs⟩
            have e : chainV (x :: r) = true := by
              rw [show chainV (x :: r) = (rowV x && chainT (x :: r)) from rfl, hrow]
              refine (chainT_iff _).mpr fun i a b ha hb => hs i ?_ a b ha hb
              have := (List.getElem?_eq_some_iff.mp hb).1
              rw [List.length_cons] at this
              omega
            have qq := q H3 ((g1.trans g2).trans g3)
            rw [e] at qq
            exact qq
end
end K18
namespace K18
open PySem PySem.Spec PyProof.Rows L2 HR SX
/-- over a list or a tuple -/
def iSeq (K : PySem.W.Frag) (tl : TE) : TI := fun σ H R => iList K tl σ H R ∨ iTup K tl σ H R
theorem pi_seq {X : Cx} {tg l : Expr} {tl : TE} (hl : PE X l tl) : PI X tg l (iSeq X.K tl) := ⟨fun pins s σ H R I h => h.elim ((pi_list hl).run pins s σ H R I) ((pi_tup hl).run pins s σ H R I)⟩
theorem iSeq_var {K : PySem.W.Frag} {i : Nat} {σ : L2.St} {H0 H : Hp} {p : Addr} {xs : List V} (hσ : σ[i]? = some (some (.ref p))) (a : SeqAtP H0 p xs) (g0 : Grow H0 H) {R : It → Hp → Prop} (hR : ∀ J, Walk J xs.length (Grow H0) (YAt xs) → R J H) : iSeq K (tVar i) σ H R := by
  rcases a.1 with h | h
  · exact .inl ⟨_, hσ, p, rfl, ⟨xs, SqL.of (g0 _ _ h)⟩, hR _ (walk_list.mono (fun H' g => SqL.of (g _ _ h)) fun _ _ _ _ _ _ y => y)⟩
  · exact .inr ⟨_, hσ, p, rfl, ⟨xs, SqT.of (g0 _ _ h)⟩, hR _ (walk_tup.mono (fun H' g => SqT.of (g _ _ h)) fun _ _ _ _ _ _ y => y)⟩
def sizesV (xs : List V) : List Int := xs.map fun x => sizeL (strL x)
def upTo (n : Nat) : List Int := (List.range n).map fun i : Nat => 1 + (i : Int)
def fullV (xs : List V) : Bool := chainV xs && (decide (sizesV xs = upTo xs.length) && !decide (48 ∈ (strL (xs.getLastD .non)).take xs.length))
theorem chain_rows {xs : List V} (h : chainV xs = true) : xs ≠ [] ∧ ∀ x ∈ xs, rowV x = true := by
  cases xs with
  | nil => cases h
  | cons a r =>
    refine ⟨List.cons_ne_nil _ _, fun x hx => ?_⟩
    obtain ⟨h1, h2⟩ := (Bool.and_eq_true _ _).mp (show (rowV a && chainT (a :: r)) = true from h)
    obtain ⟨i, hi⟩ := List.getElem?_of_mem hx
    cases i with
    | zero =>
      cases hi
      exact h1
    | succ i =>
      have hl := (List.getElem?_eq_some_iff.mp hi).1
      have := (chainT_iff _).mp h2 i _ x (List.getElem?_eq_getElem (by omega)) hi
      exact ((Bool.and_eq_true _ _).mp this).1
theorem rg_ints (n : Nat) : rgV 1 ((n : Int) + 1) = (upTo n).map V.int := by
  unfold rgV upTo
  rw [show (((n : Int) + 1) - 1).toNat = n by omega, List.map_map]
  rfl
theorem shaped_ints (l : List Int) : SeqAt.shaped (.list (l.map PyData.int)) = true := PySem.W.ke_shaped_ints l
theorem eqv_ints (l m : List Int) : PyData.eqv (.list (l.map PyData.int)) (.list (m.map PyData.int)) = decide (l = m) := PySem.W.ked_eqvAll l m
def spFull : Sp := fun vs H Q _ => ∃ v, vs = [v] ∧ PV H v ∧ ((¬ SeqV H v ∧ ∀ H', Grow H H' → Q (.bl false) H') ∨ ∃ p xs, v = .ref p ∧ SeqAtP H p xs ∧ ∀ H', Grow H H' → Q (.bl (fullV xs)) H')
section
variable {P : Program} {w : World} {K : PySem.W.Frag} {mg : Str → Option Value} {base : Heap}
theorem ok_is_full (T : HG.Tp K mg "is_full" s_is_full ["value"]) {C : Addr} (o_is_chain : HG.Df P w K mg base CX0 2 "is_chain" ["value"] spChain) (o_size_of : HG.Df P w K mg base (L2.CX P w) 4 "size_of" ["row"] (spSize C)) 
    (m_len : mg "len" = none) (m_range : mg "range" = none) (m_list : mg "list" = none) : FnOk P w K mg base CX0 5 T.f T.fd ["value"] spFull := by
  refine T.F.ok sc_is_full (fun vs H Q E h => ?_) (fun cdv A outer s H vs Q E hr h => ?_)
  · obtain ⟨v, rfl, _⟩ := h
    rfl
  · obtain ⟨v, rfl, hv, h⟩ := h
    refine ⟨_, (pss_cons (ps_if (pt_not (pt_val (HG.pe_c o_is_chain hr (pa_cons (pv 0) pa_nil))))
      (pss_one (ps_ret pe_bl))
      pss_nil)
    (pss_cons (ps_set (i := 1) sc_is_full.nd rfl (.inl rfl) (pe_callB call_len_seq (by rfl) m_len PySem.boot_len (pa_cons (pv 0) pa_nil)))
    (pss_cons (ps_if (pt_cmpR (op_neD hr.units) (pe_lc (own := [("row", 2)]) (by rfl) sc_is_full.nd (pi_seq (pv 0)) (blkOk_by (N := ["value", "many", "row"]) (sc := defScope s_is_full) (by decide +kernel)) (fun _ _ _ _ _ => (pg_name (i := 2) sc_is_full.nd rfl (Or.inl rfl))) (fun _ _ _ _ _ => pts_nil) (fun _ _ _ _ _ => (HG.pe_cL o_size_of hr (pa_cons (pv 2) pa_nil)))) (pe_listRg rfl (by rfl) m_list (prg_2 (by rfl) m_range pe_int (pe_op op_add (pv 1) pe_int))) (nomark _))
      (pss_one (ps_ret pe_bl))
      pss_nil)
    (pss_one (ps_ret (pe_cmpR op_notIn_sign pe_str (pe_slice C8.sl_txt (pe_ix ix_seq (pv 0) (pe_op op_sub (pv 1) pe_int) (fun _ _ => rfl)) po_none (po_some (pv 1))) rfl)))))), ?_⟩
    refine ⟨_, rfl, v, rfl, hv, ?_⟩
    rcases h with ⟨hn, q⟩ | ⟨p, xs, rfl, hp, q⟩
    · exact .inl ⟨hn, fun H1 g1 => ⟨_, rfl, iteT (q H1 g1)⟩⟩
    · refine .inr ⟨p, xs, rfl, hp, fun H1 g1 => ⟨_, rfl, ?_⟩⟩
      cases hc : chainV xs with
      | false =>
        have qq := q H1 g1
        rw [show fullV xs = (chainV xs && _) from rfl, hc] at qq
        exact iteT qq
      | true =>
        obtain ⟨hne, hrows⟩ := chain_rows hc
        have hp1 := hp.grow g1
        have hl := hp.2.1
        refine iteF ?_
        refine ⟨_, rfl, p, xs, rfl, hp1.sq, ?_⟩
        refine iSeq_var rfl hp1 Grow.refl (fun J wJ D nD => ?_)
        have fl : ((sizesV xs).map V.int).length ≤ 1000 := by unfold sizesV; rw [List.length_map, List.length_map]; exact hl
        refine lc_it wJ (LcI H1 D ((sizesV xs).map V.int)) (lc_start nD) (fun _ _ _ a => a.1) ?_ ?_
        · rintro i x H2 H3 hi a ⟨rfl, hx⟩
          have hm := List.mem_of_getElem? hx
          refine ⟨rfl, ?_⟩
          obtain ⟨z, rfl, hz, _⟩ := row_str (hrows x hm)
          refine ⟨_, rfl, _, rfl, (hp1.2.2 _ hm).grow a.1, fun z' e _ H4 g4 => ?_, fun hb => ?_⟩
          · cases e
            refine lc_fin nD a g4 ?_ fl
            unfold sizesV
            rw [List.getElem?_map, List.getElem?_map, hx]
            rfl
          · rw [hrows _ hm] at hb
            cases hb
        · rintro H2 a
          obtain ⟨g2, e2⟩ := lc_end a (by unfold sizesV; rw [List.length_map, List.length_map]; exact Nat.le_refl _)
          have hfull : fullV xs = (decide (sizesV xs = upTo xs.length) && !decide (48 ∈ (strL (xs.getLastD .non)).take xs.length)) := by
            show (chainV xs && _) = _
            rw [hc]
            rfl
          refine ⟨_, rfl, _, _, rfl, rfl, _, _, rfl, rfl, ⟨by decide, by decide, by omega, by omega, by omega⟩, fun r nr => ?_⟩
          rw [rg_ints]
          refine ⟨.list ((sizesV xs).map PyData.int), .list ((upTo xs.length).map PyData.int), .lst (SqL.of (HD.stay nr e2)) (HD.dp_ints _), .lst (SqL.of upd_same) (HD.dp_ints _), shaped_ints _, shaped_ints _, _, rfl, ?_⟩
          have g3 : Grow H1 (upd H2 r (.lst ((upTo xs.length).map V.int))) := g2.trans (Grow.new nr)
          have hp3 := hp1.grow g3
          rw [eqv_ints]
          have qq := q _ (g1.trans g3)
          rw [hfull] at qq
          cases hd : decide (sizesV xs = upTo xs.length) with
          | false =>
            rw [hd] at qq
            exact iteT qq
          | true =>
            rw [hd, Bool.true_and] at qq
            refine iteF ?_
            have hpos : 0 < xs.length := by
              cases xs with
              | nil => exact absurd rfl hne
              | cons a r => exact Nat.succ_pos _
            have hlast : xs[xs.length - 1]? = some (xs.getLastD .non) := by
              rw [← List.getLast?_eq_getElem?]
              cases xs with
              | nil => exact absurd rfl hne
              | cons a r => rw [List.getLast?_eq_some_getLast (List.cons_ne_nil _ _), List.getLastD_cons]; simp [List.getLast_eq_getLastD]
            have hm := List.mem_of_getElem? hlast
            obtain ⟨z, ez, hz, lz⟩ := row_str (hrows _ hm)
            rw [ez] at qq hlast
            refine ⟨_, rfl, _, rfl, _, _, rfl, rfl, ?_⟩
            refine ix_at hp3 (by rw [show ((xs.length : Int) - 1) = ((xs.length - 1 : Nat) : Int) by omega]; exact atI_nat hlast) ?_
            refine ⟨_, rfl, _, rfl, z, rfl, by have := small1000 (show z.length ≤ 1000 by omega); omega, 48, _, rfl, rfl, ?_⟩
            have es : Txt.slice z none (some (xs.length : Int)) = S (z.cps.toList.take xs.length) := by
              have e := slice_to (a := z.cps.toList) (i := (xs.length : Int)) (by omega)
              rw [S_tl] at e
              exact e
            rw [es]
            exact qq
end
end K18
namespace K18
open PySem PySem.Spec PyProof.Rows L2 HR SX
/-! ### lists side by side -/
def All2 {α β : Type} (R : α → β → Prop) (xs : List α) (ys : List β) : Prop := xs.length = ys.length ∧ ∀ (i : Nat) (x : α) (y : β), xs[i]? = some x → ys[i]? = some y → R x y
section
variable {α β : Type} {R R' : α → β → Prop} {xs xs' : List α} {ys ys' : List β} {x : α} {y : β}
theorem All2.nil : All2 R [] [] := ⟨rfl, fun i x y h => by simp at h⟩
theorem All2.mono (a : All2 R xs ys) (h : ∀ x y, R x y → R' x y) : All2 R' xs ys := ⟨a.1, fun i x y hx hy => h x y (a.2 i x y hx hy)⟩
theorem All2.cons (h : R x y) (a : All2 R xs ys) : All2 R (x :: xs) (y :: ys) := ⟨by rw [List.length_cons, List.length_cons, a.1], fun i u v hu hv => by
  cases i with
  | zero =>
    cases hu
    cases hv
    exact h
  | succ i => exact a.2 i u v hu hv⟩
theorem All2.app (a : All2 R xs ys) (b : All2 R xs' ys') : All2 R (xs ++ xs') (ys ++ ys') := ⟨by rw [List.length_append, List.length_append, a.1, b.1], fun i u v hu hv => by
  by_cases h : i < xs.length
  · rw [List.getElem?_append_left h] at hu
    rw [List.getElem?_append_left (by rw [← a.1]; exact h)] at hv
    exact a.2 i u v hu hv
  · rw [List.getElem?_append_right (by omega)] at hu
    rw [List.getElem?_append_right (by rw [← a.1]; omega)] at hv
    rw [← a.1] at hv
    exact b.2 _ u v hu hv⟩
theorem All2.one (h : R x y) : All2 R [x] [y] := .cons h .nil
theorem All2.take (a : All2 R xs ys) (n : Nat) : All2 R (xs.take n) (ys.take n) := ⟨by rw [List.length_take, List.length_take, a.1], fun i u v hu hv => by
  rw [List.getElem?_take] at hu hv
  by_cases h : i < n
  · rw [if_pos h] at hu hv
    exact a.2 i u v hu hv
  · rw [if_neg h] at hu
    cases hu⟩
theorem All2.drop (a : All2 R xs ys) (n : Nat) : All2 R (xs.drop n) (ys.drop n) := ⟨by rw [List.length_drop, List.length_drop, a.1], fun i u v hu hv => by
  rw [List.getElem?_drop] at hu hv
  exact a.2 _ u v hu hv⟩
theorem All2.at (a : All2 R xs ys) {i : Nat} (h : ys[i]? = some y) : ∃ x, xs[i]? = some x ∧ R x y := by
  have hl := (List.getElem?_eq_some_iff.mp h).1
  have hx : xs[i]? = some (xs[i]'(by rw [a.1]; exact hl)) := List.getElem?_eq_getElem _
  exact ⟨_, hx, a.2 i _ y hx h⟩
end
def withS (l : List Nat) (p c : Nat) : List Nat := l.take p ++ [c] ++ l.drop (p + 1)
theorem withS_len {l : List Nat} {p c : Nat} (h : p < l.length) : (withS l p c).length = l.length := by
  unfold withS
  rw [List.length_append, List.length_append, List.length_take, List.length_drop]
  show _ + 1 + _ = _
  omega
def rowsV (c : List (List Nat)) : List V := c.map fun l => V.str (S l)
def gFull : Hp → V → Bool → Prop := fun H v b => (¬ SeqV H v ∧ b = false) ∨ ∃ p xs, v = .ref p ∧ SeqAtP H p xs ∧ b = fullV xs
/-- the items of range that pass, in the new list -/
def LcF (H1 : Hp) (D : Addr) (f : Nat → Bool) (g : Nat → V) (i : Nat) (H : Hp) : Prop := Grow H1 H ∧ H D = some (.lst (((List.range i).filter f).map g))
theorem lcf_no {H1 H H4 : Hp} {D : Addr} {f : Nat → Bool} {g : Nat → V} {i : Nat} (a : LcF H1 D f g i H) (k : Grow H H4) (h : f i = false) : LcF H1 D f g (i + 1) H4 := by
  refine ⟨fun q o e => k _ _ (a.1 q o e), ?_⟩
  rw [List.range_succ, List.filter_append, List.filter_cons_of_neg (by rw [h]; exact Bool.false_ne_true), List.filter_nil, List.append_nil]
  exact k _ _ a.2
theorem lcf_yes {H1 H H4 : Hp} {D : Addr} {f : Nat → Bool} {g : Nat → V} {i : Nat} (n : H1 D = none) (a : LcF H1 D f g i H) (k : Grow H H4) (h : f i = true) (hl : i ≤ 1000) :
    ∃ acc, H4 D = some (.lst acc) ∧ acc.length < sizeLine ∧ LcF H1 D f g (i + 1) (upd H4 D (.lst (acc ++ [g i]))) := by
  refine ⟨_, k _ _ a.2, ?_, fun q o e => ?_, ?_⟩
  · rw [List.length_map]
    have := List.length_filter_le f (List.range i)
    rw [List.length_range] at this
    exact small1000 (by omega)
  · rw [upd_ne (ne_of_none e n)]
    exact k _ _ (a.1 q o e)
  · rw [upd_same, List.range_succ, List.filter_append, List.filter_cons_of_pos h, List.filter_nil, List.map_append]
    rfl
section
variable {P : Program} {w : World} {K : PySem.W.Frag} {mg : Str → Option Value} {base : Heap}
theorem ok_want_full (T : HG.Tp K mg "want_full" s_want_full ["value", "part"]) (o_is_full : HG.Df P w K mg base CX0 5 "is_full" ["value"] spFull) (e_BadChain : HX.Er P w K mg base "BadChain") :
    FnOk P w K mg base (L2.CX P w) 6 T.f T.fd ["value", "part"] (spWant e_BadChain.C gFull) := by
  refine T.F.okX sc_want_full (fun vs H Q E h => ?_) (fun cdv A outer s H vs Q E hr h => ?_)
  · obtain ⟨v, x, b, rfl, _⟩ := h
    rfl
  · obtain ⟨v, x, b, rfl, hv, hg, q1, q2⟩ := h
    have tk : Takes (cxOf (L2.CX P w) P w K mg base ["value", "part"] "want_full" (defScope s_want_full) T.f cdv A outer s H E) (fun cls d _ H => E cls d H) := takes_of rfl rfl rfl rfl
    refine ⟨_, (pss_one (ps_if (pt_not (pt_val (HG.pe_c o_is_full hr (pa_cons (pv 0) pa_nil))))
      (pss_one (HX.ps_raise_er e_BadChain hr tk (pv 1)))
      pss_nil)), ?_⟩
    refine ⟨_, rfl, v, rfl, hv.1, ?_⟩
    rcases hg with ⟨hn, rfl⟩ | ⟨p, xs, rfl, hp, rfl⟩
    · exact .inl ⟨hn, fun H1 g1 => ⟨_, rfl, iteT ⟨_, rfl, HX.raise_go (q2 rfl H1 g1)⟩⟩⟩
    · refine .inr ⟨p, xs, rfl, hp, fun H1 g1 => ⟨_, rfl, ?_⟩⟩
      cases hb : fullV xs with
      | true => exact iteF (q1 hb H1 g1)
      | false => exact iteT ⟨_, rfl, HX.raise_go (q2 hb H1 g1)⟩
/-- what a d-chain is -/
theorem full_rows {xs : List V} (h : fullV xs = true) : ∃ n, n ≤ 12 ∧ xs ≠ [] ∧ ∀ (i : Nat) x, xs[i]? = some x → ∃ z : Str, x = .str z ∧ rowL z.cps.toList = true ∧ z.length = n ∧ z.cps.toList = (xs.map strL).getD i [] := by
  have hc : chainV xs = true := ((Bool.and_eq_true _ _).mp (show (chainV xs && _) = true from h)).1
  obtain ⟨hne, hr⟩ := chain_rows hc
  cases xs with
  | nil => exact absurd rfl hne
  | cons a r =>
    obtain ⟨za, rfl, ra, la⟩ := row_str (hr a List.mem_cons_self)
    have ht : chainT (.str za :: r) = true := ((Bool.and_eq_true _ _).mp (show (rowV (.str za) && chainT (.str za :: r)) = true from hc)).2
    have key : ∀ (i : Nat) x, (V.str za :: r)[i]? = some x → (strL x).length = za.length := by
      intro i
      induction i with
      | zero =>
        intro x hx
        cases hx
        show za.cps.toList.length = za.length
        simp [Str.length]
      | succ i ih =>
        intro x hx
        have hl := (List.getElem?_eq_some_iff.mp hx).1
        have h0 : (V.str za :: r)[i]? = some ((V.str za :: r)[i]'(by omega)) := List.getElem?_eq_getElem _
        have h1 := ih _ h0
        have h2 := (chainT_iff _).mp ht i _ x h0 hx
        have h3 := ((Bool.and_eq_true _ _).mp h2).2
        have h4 := of_decide_eq_true ((Bool.and_eq_true _ _).mp h3).1
        omega
    refine ⟨za.length, la, hne, fun i x hx => ?_⟩
    obtain ⟨z, rfl, rz, lz⟩ := row_str (hr x (List.mem_of_getElem? hx))
    refine ⟨z, rfl, rz, ?_, ?_⟩
    · have := key i _ hx
      have e : (strL (.str z)).length = z.length := by
        show z.cps.toList.length = z.length
        simp [Str.length]
      omega
    · rw [List.getD_eq_getElem?_getD, List.getElem?_map, hx]
      rfl
theorem full_step {xs : List V} (h : fullV xs = true) {i : Nat} {x y : V} (hx : xs[i]? = some x) (hy : xs[i + 1]? = some y) : belowL (strL x) (strL y) = true := by
  have hc : chainV xs = true := ((Bool.and_eq_true _ _).mp (show (chainV xs && _) = true from h)).1
  cases xs with
  | nil => cases hc
  | cons a r =>
    have ht : chainT (a :: r) = true := ((Bool.and_eq_true _ _).mp (show (rowV a && chainT (a :: r)) = true from hc)).2
    exact ((Bool.and_eq_true _ _).mp ((chainT_iff _).mp ht i x y hx hy)).2
theorem cut_to {xs : List V} {i : Nat} : cutV xs none (some (i : Int)) = xs.take i := by
  show (xs.drop (HT.sIx xs.length 0 none)).take (HT.sIx xs.length xs.length (some (i : Int)) - HT.sIx xs.length 0 none) = _
  rw [HT.sIx_none, HT.sIx_nat, List.drop_zero, Nat.sub_zero]
  by_cases h : i ≤ xs.length
  · rw [Nat.min_eq_left h]
  · rw [Nat.min_eq_right (by omega), List.take_of_length_le (Nat.le_refl _), List.take_of_length_le (by omega)]
theorem cut_from {xs : List V} {i : Nat} : cutV xs (some (i : Int)) none = xs.drop i := by
  show (xs.drop (HT.sIx xs.length 0 (some (i : Int)))).take (HT.sIx xs.length xs.length none - HT.sIx xs.length 0 (some (i : Int))) = _
  rw [HT.sIx_none, HT.sIx_nat]
  by_cases h : i ≤ xs.length
  · rw [Nat.min_eq_left h, List.take_of_length_le (by rw [List.length_drop]; omega)]
  · rw [Nat.min_eq_right (by omega), List.drop_of_length_le (Nat.le_refl _), List.drop_of_length_le (by omega), List.take_nil]
/-- t[lo:hi], the whole of it or a part -/
theorem sl_any {K : PySem.W.Frag} {xs : List V} {lo hi : Option Int} {a : Addr} {H : Hp} {Q : VK} (h : H a = some (.tup xs)) (q : ∀ t H', Grow H H' → H' t = some (.tup (cutV xs lo hi)) → Q (.ref t) H') : rSlA K (.ref a) lo hi H Q := by
  refine ⟨a, xs, rfl, SqT.of h, fun ⟨e1, e2⟩ => q a H Grow.refl ?_, fun _ p np => q p _ (Grow.new np) upd_same⟩
  rw [h]
  show _ = some (HO.tup ((xs.drop (HT.sIx xs.length 0 lo)).take (HT.sIx xs.length xs.length hi - HT.sIx xs.length 0 lo)))
  rw [e1, e2, List.drop_zero, Nat.sub_zero, List.take_of_length_le (Nat.le_refl _)]
/-- the written dict of opposite signs -/
def OppK (K : PySem.W.Frag) (w : World) (a : Addr) : Prop := KDct K w a (S [43]) (.str (S [45])) ∧ KDct K w a (S [45]) (.str (S [43])) ∧ KDct K w a (S [48]) (.str (S [48]))
end
end K18
namespace K18
open PySem PySem.Spec PyProof.Rows L2 HR SX HZ
def oppS (c : Nat) : Nat := if c = 43 then 45 else if c = 45 then 43 else 48
/-- the row between two rows, that takes the other one of the two places first -/
def midL : List Nat → List Nat → List Nat → List Nat
  | a :: r, b :: s, c :: t => (if b = a then c else a) :: midL r s t
  | _, _, _ => []
/-- the last row with the other sign -/
def turnL : List Nat → List Nat → List Nat
  | a :: r, b :: s => (if b = a then b else oppS b) :: turnL r s
  | _, _ => []
def lowL (c : List (List Nat)) (i : Nat) : List Nat := if 0 < i then c.getD (i - 1) [] else List.replicate (c.getD i []).length 48
def rowB (c : List (List Nat)) (i : Nat) : Option (List Nat) :=
  if i + 1 < c.length then some (midL (lowL c i) (c.getD i []) (c.getD (i + 1) [])) else if (lowL c i).getD i 0 = 48 then none else some (turnL (lowL c i) (c.getD i []))
theorem midL_len : ∀ {n : Nat} {a b c : List Nat}, a.length = n → b.length = n → c.length = n → (midL a b c).length = n
  | 0, [], [], [], _, _, _ => rfl
  | n + 1, x :: a, y :: b, z :: c, h1, h2, h3 => congrArg Nat.succ (midL_len (Nat.succ.inj h1) (Nat.succ.inj h2) (Nat.succ.inj h3))
theorem turnL_len : ∀ {n : Nat} {a b : List Nat}, a.length = n → b.length = n → (turnL a b).length = n
  | 0, [], [], _, _ => rfl
  | n + 1, x :: a, y :: b, h1, h2 => congrArg Nat.succ (turnL_len (Nat.succ.inj h1) (Nat.succ.inj h2))
theorem midL_at : ∀ {i : Nat} {a b c : List Nat} {x y z : Nat}, a[i]? = some x → b[i]? = some y → c[i]? = some z → (midL a b c)[i]? = some (if y = x then z else x)
  | 0, _ :: _, _ :: _, _ :: _, _, _, _, h1, h2, h3 => by cases h1; cases h2; cases h3; rfl
  | i + 1, _ :: a, _ :: b, _ :: c, _, _, _, h1, h2, h3 => midL_at (i := i) (a := a) (b := b) (c := c) h1 h2 h3
  | _, [], _, _, _, _, _, h1, _, _ => by simp at h1
  | _, _ :: _, [], _, _, _, _, _, h2, _ => by simp at h2
  | _, _ :: _, _ :: _, [], _, _, _, _, _, h3 => by simp at h3
theorem turnL_at : ∀ {i : Nat} {a b : List Nat} {x y : Nat}, a[i]? = some x → b[i]? = some y → (turnL a b)[i]? = some (if y = x then y else oppS y)
  | 0, _ :: _, _ :: _, _, _, h1, h2 => by cases h1; cases h2; rfl
  | i + 1, _ :: a, _ :: b, _, _, h1, h2 => turnL_at (i := i) (a := a) (b := b) h1 h2
  | _, [], _, _, _, h1, _ => by simp at h1
  | _, _ :: _, [], _, _, _, h2 => by simp at h2
def sg1 (c : Nat) : V := .str ⟨#[c]⟩
theorem join1 : ∀ l : List Nat, TL.joinL [] (l.map fun c => [c]) = l
  | [] => rfl
  | [c] => rfl
  | c :: d :: r => by
    have ih := join1 (d :: r)
    show [c] ++ ([] ++ TL.joinL [] ((d :: r).map fun c => [c])) = _
    rw [ih]
    rfl
theorem join_sg (l : List Nat) : Txt.join (Str.ofString "") (l.map fun c => S [c]) = S l := by
  have e := join_S [] (l.map fun c => [c])
  rw [join1, List.map_map] at e
  exact e
theorem map_sg (l : List Nat) : l.map sg1 = (l.map fun c => S [c]).map V.str := by
  rw [List.map_map]
  rfl
theorem sum_sg : ∀ l : List Nat, ((l.map fun c => S [c]).map (·.length)).sum = l.length
  | [] => rfl
  | c :: r => by
    have ih := sum_sg r
    show 1 + ((r.map fun c => S [c]).map (·.length)).sum = r.length + 1
    omega
theorem S_at {l : List Nat} {i : Nat} {c : Nat} (h : (S l).cps[i]? = some c) : l[i]? = some c := by
  simpa [S] using h
theorem S_size (l : List Nat) : (S l).cps.size = l.length := by simp [S]
theorem rows_at {c : List (List Nat)} {i : Nat} (h : i < c.length) : (rowsV c)[i]? = some (.str (S (c.getD i []))) := by
  unfold rowsV
  rw [List.getElem?_map, List.getElem?_eq_getElem h, List.getD_eq_getElem?_getD, List.getElem?_eq_getElem h]
  rfl
theorem sg1_eq (a b : Nat) : decide (V.str ⟨#[a]⟩ = V.str ⟨#[b]⟩) = decide (a = b) := by
  by_cases h : a = b
  · rw [h, decide_eq_true rfl, decide_eq_true rfl]
  · rw [decide_eq_false h, decide_eq_false fun z => h ?_]
    have z2 : (#[a] : Array Nat) = #[b] := congrArg (·.cps) (V.str.inj z)
    exact (List.cons.inj (congrArg (·.toList) z2)).1
def spRB : Sp := fun vs H Q _ => ∃ (p : Addr) (c : List (List Nat)) (i n : Nat), vs = [.ref p, .int (i : Nat)] ∧ SeqAtP H p (rowsV c) ∧ i < c.length ∧ c.length ≤ n ∧ n ≤ 12 ∧ (∀ l ∈ c, l.length = n ∧ l.all sgn = true) ∧
  (rowB c i = none → ∀ H', Grow H H' → Q .non H') ∧ ∀ r, rowB c i = some r → ∀ H', Grow H H' → Q (.str (S r)) H'
section
variable {P : Program} {w : World} {K : PySem.W.Frag} {mg : Str → Option Value} {base : Heap}
theorem ok_row_beyond (T : HG.Tp K mg "row_beyond" s_row_beyond ["chain", "index"]) {aO : Addr} (m_OPPOSITES : mg "OPPOSITES" = some (.ref aO)) (k_OPP : OppK K w aO) (m_len : mg "len" = none) (m_zip : mg "zip" = none) :
    FnOk P w K mg base CX0 1 T.f T.fd ["chain", "index"] spRB := by
  refine T.F.ok sc_row_beyond (fun vs H Q E h => ?_) (fun cdv A outer s H vs Q E hr h => ?_)
  · obtain ⟨p, c, i, n, rfl, _⟩ := h
    rfl
  · obtain ⟨p, c, i, n, rfl, hp, hi, hcn, hn, hrow, q1, q2⟩ := h
    refine ⟨_, (pss_cons (ps_set (i := 2) sc_row_beyond.nd rfl (.inl rfl) (pe_ix ix_seq (pv 0) (pv 1) (fun _ _ => rfl)))
    (pss_cons (ps_set (i := 3) sc_row_beyond.nd rfl (.inl rfl) (pe_ifExp (pt_cmpR op_gt (pv 1) pe_int (nomark _)) (pe_ix ix_seq (pv 0) (pe_op op_sub (pv 1) pe_int) (fun _ _ => rfl)) (pe_op op_mul_str pe_str (pe_callB call_len_str (by rfl) m_len PySem.boot_len (pa_cons (pv 2) pa_nil)))))
    (pss_cons (ps_if (pt_cmpR op_lt (pv 1) (pe_op op_sub (pe_callB call_len_seq (by rfl) m_len PySem.boot_len (pa_cons (pv 0) pa_nil)) pe_int) (nomark _))
      (pss_cons (ps_set (i := 4) sc_row_beyond.nd rfl (.inl rfl) (pe_ix ix_seq (pv 0) (pe_op op_add (pv 1) pe_int) (fun _ _ => rfl)))
      (pss_one (ps_ret (pe_join pe_str (pe_lc (own := [("below", 5), ("here", 6), ("above", 7)]) (by rfl) sc_row_beyond.nd (pi_zip3 (by rfl) m_zip (pa_cons (pv 3) (pa_cons (pv 2) (pa_cons (pv 4) pa_nil)))) (blkOk_by (N := ["chain", "index", "row", "lower", "upper", "below", "here", "above"]) (sc := defScope s_row_beyond) (by decide +kernel)) (fun _ _ _ _ _ => (pg_tupK (n := 3) K rfl rfl (pgs_cons (pg_name (i := 5) sc_row_beyond.nd rfl (Or.inl rfl)) (pgs_cons (pg_name (i := 6) sc_row_beyond.nd rfl (Or.inl rfl)) (pgs_cons (pg_name (i := 7) sc_row_beyond.nd rfl (Or.inl rfl)) pgs_nil))))) (fun _ _ _ _ _ => pts_nil) (fun _ _ _ _ _ => (pe_ifExp (pt_cmpR op_eq (pv 6) (pv 5) (nomark _)) (pv 7) (pv 5))))))))
      pss_nil)
    (pss_cons (ps_if (pt_cmpR op_eq (pe_ix ix_str (pv 3) (pv 1) (fun _ _ => rfl)) pe_str (nomark _))
      (pss_one (ps_ret pe_non))
      pss_nil)
    (pss_one (ps_ret (pe_join pe_str (pe_lc (own := [("below", 5), ("here", 6)]) (by rfl) sc_row_beyond.nd (pi_zip2 (by rfl) m_zip (pa_cons (pv 3) (pa_cons (pv 2) pa_nil))) (blkOk_by (N := ["chain", "index", "row", "lower", "upper", "below", "here", "above"]) (sc := defScope s_row_beyond) (by decide +kernel)) (fun _ _ _ _ _ => (pg_tupK (n := 2) K rfl rfl (pgs_cons (pg_name (i := 5) sc_row_beyond.nd rfl (Or.inl rfl)) (pgs_cons (pg_name (i := 6) sc_row_beyond.nd rfl (Or.inl rfl)) pgs_nil)))) (fun _ _ _ _ _ => pts_nil) (fun _ _ _ _ _ => (pe_ifExp (pt_cmpR op_eq (pv 6) (pv 5) (nomark _)) (pv 6) (pe_ix (ix_kdictK K w rfl rfl) (pe_glob (v := .ref aO) (by rfl) m_OPPOSITES rfl) (pv 6) (fun _ _ => rfl)))))))))))), ?_⟩
    have gi := rows_at hi
    have hl0 := hrow _ (List.getElem_mem hi)
    have el : c.getD i [] = c[i] := by rw [List.getD_eq_getElem?_getD, List.getElem?_eq_getElem hi]; rfl
    have hri : (c.getD i []).length = n ∧ (c.getD i []).all sgn = true := by rw [el]; exact hl0
    obtain ⟨lo, hlo⟩ : ∃ lo, lo = lowL c i := ⟨_, rfl⟩
    obtain ⟨ro, hro⟩ : ∃ ro, ro = c.getD i [] := ⟨_, rfl⟩
    have hlol : lo.length = n := by
      rw [hlo]
      unfold lowL
      by_cases h0 : 0 < i
      · rw [if_pos h0]
        have hj : i - 1 < c.length := by omega
        have := hrow _ (List.getElem_mem hj)
        rw [List.getD_eq_getElem?_getD, List.getElem?_eq_getElem hj]
        exact this.1
      · rw [if_neg h0, List.length_replicate]
        exact hri.1
    have eb : rowB c i = if i + 1 < c.length then some (midL lo ro (c.getD (i + 1) [])) else if lo.getD i 0 = 48 then none else some (turnL lo ro) := by
      rw [hlo, hro]
      rfl
    rw [eb] at q1 q2
    rw [← hro] at gi hri
    have sz := sizeLine_eq
    have len2 : (rowsV c).length = c.length := by unfold rowsV; rw [List.length_map]
    refine ⟨_, rfl, _, rfl, ix_at hp (atI_nat gi) ?_⟩
    refine ⟨_, rfl, _, _, rfl, rfl, _, rfl, ite2 (fun h0 => ?_) (fun h0 => ?_)⟩
    have h0' : 0 < i := by
      have : (0 : Int) < (i : Int) := of_decide_eq_true h0
      omega
    have hj : i - 1 < c.length := by omega
    have gj := rows_at hj
    have ej : lo = c.getD (i - 1) [] := by rw [hlo]; exact if_pos h0'
    refine ⟨_, rfl, _, rfl, _, _, rfl, rfl, ix_at hp (by rw [show ((i : Int) - 1) = ((i - 1 : Nat) : Int) by omega]; exact atI_nat gj) ?_⟩
    rw [← ej]
    rotate_left
    have h0' : ¬ 0 < i := fun z => h0 (decide_eq_true (show (0 : Int) < (i : Int) by omega))
    have ej : lo = List.replicate n 48 := by
      rw [hlo]
      show (if 0 < i then _ else _) = _
      rw [if_neg h0', ← hro, hri.1]
    refine ⟨_, rfl, _, rfl, by rw [S_len]; omega, ?_⟩
    refine ⟨_, _, rfl, rfl, by rw [S_len]; exact mul_ok (by omega), ?_⟩
    rw [show Txt.mul "0" ((S ro).length : Int) = S lo from by rw [S_len, hri.1, ej]; exact mul_S n]
    all_goals
      refine ⟨_, rfl, _, rfl, p, _, rfl, hp.sq, _, _, rfl, rfl, _, _, rfl, rfl, _, rfl, ite2 (fun h => ?_) (fun h => ?_)⟩
      · have h1 : i + 1 < c.length := by
          have : (i : Int) < ((rowsV c).length : Int) - 1 := of_decide_eq_true h
          omega
        have gk := rows_at h1
        have hup : (c.getD (i + 1) []).length = n := by
          rw [List.getD_eq_getElem?_getD, List.getElem?_eq_getElem h1]
          exact (hrow _ (List.getElem_mem h1)).1
        generalize c.getD (i + 1) [] = up at gk hup q2
        refine ⟨_, rfl, _, rfl, _, _, rfl, rfl, ix_at hp (by rw [show ((i : Int) + 1) = ((i + 1 : Nat) : Int) by omega]; exact atI_nat gk) ?_⟩
        have ml := midL_len hlol hri.1 hup
        refine ⟨⟨_, rfl⟩, _, rfl, _, rfl, _, rfl, S lo, S ro, S up, rfl, fun D nD => ?_⟩
        refine lc_it walk_f (LcI H D ((midL lo ro up).map sg1)) (lc_start nD) (fun _ _ _ _ => trivial) ?_ ?_
        · rintro j x H2 H3 hj a ⟨t, l, rfl, nt, rfl, x1, y1, z1, hx, hy, hz, rfl⟩
          refine ⟨t, _, rfl, SqT.of upd_same, rfl, _, _, rfl, _, _, rfl, _, _, rfl, rfl, ?_⟩
          refine ⟨rfl, ?_⟩
          refine ⟨_, rfl, _, rfl, rfl, _, rfl, ?_⟩
          rw [sg1_eq]
          have fin : ∀ v : Nat, (midL lo ro up)[j]? = some v → ∃ acc, (upd H2 t (.tup [.str ⟨#[x1]⟩, .str ⟨#[y1]⟩, .str ⟨#[z1]⟩])) D = some (.lst acc) ∧ acc.length < sizeLine ∧ LcI H D ((midL lo ro up).map sg1) (j + 1) (upd (upd H2 t (.tup [.str ⟨#[x1]⟩, .str ⟨#[y1]⟩, .str ⟨#[z1]⟩])) D (.lst (acc ++ [.str ⟨#[v]⟩]))) := fun v hv =>
            lc_fin nD a (Grow.new nt) (by rw [List.getElem?_map, hv]; rfl) (by rw [List.length_map]; omega)
          have e := midL_at (S_at hx) (S_at hy) (S_at hz)
          by_cases hxy : y1 = x1
          · rw [if_pos hxy] at e
            exact iteT' (decide_eq_true hxy) ⟨_, rfl, fin _ e⟩
          · rw [if_neg hxy] at e
            exact iteF' (decide_eq_false hxy) ⟨_, rfl, fin _ e⟩
        · rintro H2 a
          rw [S_size, S_size, S_size] at a
          obtain ⟨g2, e2⟩ := lc_end a (by rw [List.length_map]; omega)
          refine ⟨_, D, (midL lo ro up).map fun c => S [c], rfl, rfl, .inl (SqL.of (by rw [e2, map_sg])), ?_, ?_⟩
          · rw [sum_sg, List.length_map]
            show _ + _ * 0 ≤ _
            omega
          · show Q (.str (Txt.join (Str.ofString "") _)) _
            rw [join_sg]
            exact q2 _ (if_pos h1) H2 g2
      · have h1 : ¬ i + 1 < c.length := fun z => h (decide_eq_true (show (i : Int) < ((rowsV c).length : Int) - 1 by omega))
        rw [if_neg h1] at q1 q2
        have hli : lo[i]? = some (lo.getD i 0) := by
          have hlt : i < lo.length := by omega
          rw [List.getD_eq_getElem?_getD, List.getElem?_eq_getElem hlt]
          rfl
        generalize lo.getD i 0 = g at hli q1 q2
        refine ⟨_, rfl, _, rfl, S lo, _, _, rfl, rfl, by rw [S_len]; omega, atI_nat (by simpa using hli), rfl, _, rfl, ?_⟩
        by_cases hg : g = 48
        · rw [if_pos hg] at q1
          exact iteT' (by rw [hg]; exact decide_eq_true rfl) (q1 rfl H Grow.refl)
        · rw [if_neg hg] at q2
          refine iteF' ((sg1_eq g 48).trans (decide_eq_false hg)) ?_
          have tl := turnL_len hlol hri.1
          refine ⟨⟨_, rfl⟩, _, rfl, _, rfl, S lo, S ro, rfl, fun D nD => ?_⟩
          refine lc_it walk_f (LcI H D ((turnL lo ro).map sg1)) (lc_start nD) (fun _ _ _ _ => trivial) ?_ ?_
          · rintro j x H2 H3 hj a ⟨t, l, rfl, nt, rfl, x1, y1, hx, hy, rfl⟩
            refine ⟨t, _, rfl, SqT.of upd_same, rfl, _, _, rfl, _, _, rfl, rfl, ?_⟩
            refine ⟨rfl, ?_⟩
            refine ⟨_, rfl, _, rfl, rfl, _, rfl, ?_⟩
            rw [sg1_eq]
            have fin : ∀ v : Nat, (turnL lo ro)[j]? = some v → ∃ acc, (upd H2 t (.tup [.str ⟨#[x1]⟩, .str ⟨#[y1]⟩])) D = some (.lst acc) ∧ acc.length < sizeLine ∧ LcI H D ((turnL lo ro).map sg1) (j + 1) (upd (upd H2 t (.tup [.str ⟨#[x1]⟩, .str ⟨#[y1]⟩])) D (.lst (acc ++ [.str ⟨#[v]⟩]))) := fun v hv =>
              lc_fin nD a (Grow.new nt) (by rw [List.getElem?_map, hv]; rfl) (by rw [List.length_map]; omega)
            have e := turnL_at (S_at hx) (S_at hy)
            by_cases hxy : y1 = x1
            · rw [if_pos hxy] at e
              exact iteT' (decide_eq_true hxy) ⟨_, rfl, fin _ e⟩
            · rw [if_neg hxy] at e
              have hs : y1 = 43 ∨ y1 = 45 ∨ y1 = 48 := by
                have := List.all_eq_true.mp hri.2 y1 (List.mem_of_getElem? (S_at hy))
                revert this
                unfold sgn
                simp
              have hk : KDct K w aO (S [y1]) (.str (S [oppS y1])) := by
                rcases hs with z | z | z
                · rw [z]; exact k_OPP.1
                · rw [z]; exact k_OPP.2.1
                · rw [z]; exact k_OPP.2.2
              exact iteF' (decide_eq_false hxy) ⟨_, rfl, aO, _, _, rfl, rfl, hk, fin _ e⟩
          · rintro H2 a
            rw [S_size, S_size] at a
            obtain ⟨g2, e2⟩ := lc_end a (by rw [List.length_map]; omega)
            refine ⟨_, D, (turnL lo ro).map fun c => S [c], rfl, rfl, .inl (SqL.of (by rw [e2, map_sg])), ?_, ?_⟩
            · rw [sum_sg, List.length_map]
              show _ + _ * 0 ≤ _
              omega
            · show Q (.str (Txt.join (Str.ofString "") _)) _
              rw [join_sg]
              exact q2 _ rfl H2 g2
end
end K18
namespace K18
open PySem PySem.Spec PyProof.Rows L2 HR SX HZ
/-- the d-chain beyond -/
def beyC (c : List (List Nat)) (i : Nat) : Option (List (List Nat)) := (rowB c i).map fun r => c.take i ++ r :: c.drop (i + 1)
theorem cnt_ge (k : Nat) : ∀ l : List Nat, 0 ≤ cnt k l
  | [] => by rw [cnt_nil]; exact Int.le_refl 0
  | n :: r => by
    rw [cnt_cons]
    have := cnt_ge k r
    by_cases h : n = k
    · rw [if_pos h]; omega
    · rw [if_neg h]; omega
theorem sizeL_le (l : List Nat) : sizeL l ≤ l.length := by
  unfold sizeL
  have := cnt_ge 48 l
  omega
/-- the last row of a d-chain has d places at least -/
theorem full_wide {xs : List V} (h : fullV xs = true) {x : V} {i : Nat} (hx : xs[i]? = some x) : (i : Int) + 1 ≤ (strL x).length := by
  have h1 := ((Bool.and_eq_true _ _).mp (show (chainV xs && _) = true from h)).2
  have h2 := of_decide_eq_true ((Bool.and_eq_true _ _).mp h1).1
  have hl := (List.getElem?_eq_some_iff.mp hx).1
  have e1 : (sizesV xs)[i]? = some (sizeL (strL x)) := by
    unfold sizesV
    rw [List.getElem?_map, hx]
    rfl
  have e2 : (upTo xs.length)[i]? = some (1 + (i : Int)) := by
    unfold upTo
    rw [List.getElem?_map, List.getElem?_range hl]
    rfl
  rw [h2, e2] at e1
  have e3 := Option.some.inj e1
  have := sizeL_le (strL x)
  omega
theorem strL_S (l : List Nat) : strL (.str (S l)) = l := by simp [strL, S]
theorem rowL_sgn {l : List Nat} (h : rowL l = true) : l.all sgn = true := by
  have h1 := ((Bool.and_eq_true _ _).mp (show (_ && _) = true from h)).2
  exact ((Bool.and_eq_true _ _).mp h1).1
theorem rows_full {c : List (List Nat)} (h : fullV (rowsV c) = true) : ∃ n, c.length ≤ n ∧ n ≤ 12 ∧ 1 ≤ c.length ∧ ∀ l ∈ c, l.length = n ∧ l.all sgn = true := by
  obtain ⟨n, hn, hne, hr⟩ := full_rows h
  have key : ∀ l ∈ c, l.length = n ∧ l.all sgn = true := fun l hl => by
    obtain ⟨i, hi⟩ := List.getElem?_of_mem hl
    have e : (rowsV c)[i]? = some (.str (S l)) := by
      unfold rowsV
      rw [List.getElem?_map, hi]
      rfl
    obtain ⟨z, ez, rz, lz, _⟩ := hr i _ e
    cases ez
    rw [S_len] at lz
    have e2 : (S l).cps.toList = l := by simp [S]
    rw [e2] at rz
    exact ⟨lz, rowL_sgn rz⟩
  have hc : 1 ≤ c.length := by
    cases c with
    | nil => exact absurd rfl hne
    | cons a r => exact Nat.succ_le_succ (Nat.zero_le _)
  have hj : c.length - 1 < c.length := by omega
  have w := full_wide h (rows_at hj)
  rw [strL_S] at w
  have e : c.getD (c.length - 1) [] = c[c.length - 1] := by rw [List.getD_eq_getElem?_getD, List.getElem?_eq_getElem hj]; rfl
  have k := (key _ (List.getElem_mem hj)).1
  rw [e, k] at w
  exact ⟨n, by omega, hn, hc, key⟩
def spBey (CC CN CM : Addr) : Sp := fun vs H Q E => ∃ v u, vs = [v, u] ∧ OKV H v ∧ PV H u ∧ ((gFull H v false ∧ ∀ H', Grow H H' → HX.Told E CC H' (.str "chain")) ∨
  ∃ p c, v = .ref p ∧ SeqAtP H p (rowsV c) ∧ fullV (rowsV c) = true ∧ ((withinV u 0 ((c.length : Int) - 1) = false ∧ ∀ H', Grow H H' → HX.Told E CN H' (.str "index")) ∨
    ∃ i : Nat, u = .int (i : Nat) ∧ i < c.length ∧ ((c.length = 1 ∧ ∀ H', Grow H H' → HX.Told E CM H' (.str "chain")) ∨
      (2 ≤ c.length ∧ (beyC c i = none → ∀ H', Grow H H' → Q .non H') ∧ ∀ d, beyC c i = some d → ∀ H' t, Grow H H' → H' t = some (.tup (rowsV d)) → Q (.ref t) H'))))
theorem cut_l {H : Hp} {p : Addr} {xs : List V} {K : PySem.W.Frag} {lo hi : Option Int} {Q : VK} (h : SeqAtP H p xs) (q : ∀ t H', Grow H H' → (H' t = some (.lst (cutV xs lo hi)) ∨ H' t = some (.tup (cutV xs lo hi))) → Q (.ref t) H') : rSlL K (.ref p) lo hi H Q ∨ rSlA K (.ref p) lo hi H Q := by
  rcases h.1 with h1 | h1
  · exact .inl ⟨p, xs, rfl, SqL.of h1, fun t nt => q t _ (Grow.new nt) (.inl upd_same)⟩
  · exact .inr (sl_any h1 fun t H' g e => q t H' g (.inr e))
section
variable {P : Program} {w : World} {K : PySem.W.Frag} {mg : Str → Option Value} {base : Heap}
theorem ok_beyond (T : HG.Tp K mg "beyond" s_beyond ["chain", "index"]) (e_BadChain : HX.Er P w K mg base "BadChain") (o_want_full : HG.Df P w K mg base (L2.CX P w) 6 "want_full" ["value", "part"] (spWant e_BadChain.C gFull)) (o_is_within : HG.Df P w K mg base CX0 2 "is_within" ["value", "least", "most"] spWithin)
    (o_row_beyond : HG.Df P w K mg base CX0 1 "row_beyond" ["chain", "index"] spRB)
    (e_BadNumber : HX.Er P w K mg base "BadNumber") (e_Misfit : HX.Er P w K mg base "Misfit") (m_len : mg "len" = none) : FnOk P w K mg base (L2.CX P w) 7 T.f T.fd ["chain", "index"] (spBey e_BadChain.C e_BadNumber.C e_Misfit.C) := by
  refine T.F.okX sc_beyond (fun vs H Q E h => ?_) (fun cdv A outer s H vs Q E hr h => ?_)
  · obtain ⟨v, u, rfl, _⟩ := h
    rfl
  · obtain ⟨v, u, rfl, hv, hu, h⟩ := h
    have tk : Takes (cxOf (L2.CX P w) P w K mg base ["chain", "index", "row"] "beyond" (defScope s_beyond) T.f cdv A outer s H E) (fun cls d _ H => E cls d H) := takes_of rfl rfl rfl rfl
    refine ⟨_, (pss_cons (ps_expr (HG.pe_cS o_want_full hr tk (pa_cons (pv 0) (pa_cons pe_str pa_nil))))
    (pss_cons (ps_if (pt_not (pt_val (HG.pe_c o_is_within hr (pa_cons (pv 1) (pa_cons pe_int (pa_cons (pe_op op_sub (pe_callB call_len_seq (by rfl) m_len PySem.boot_len (pa_cons (pv 0) pa_nil)) pe_int) pa_nil))))))
      (pss_one (HX.ps_raise_er e_BadNumber hr tk pe_str))
      pss_nil)
    (pss_cons (ps_if (pt_cmpR op_eq (pe_callB call_len_seq (by rfl) m_len PySem.boot_len (pa_cons (pv 0) pa_nil)) pe_int (nomark _))
      (pss_one (HX.ps_raise_er e_Misfit hr tk pe_str))
      pss_nil)
    (pss_cons (ps_set (i := 2) sc_beyond.nd rfl (.inl rfl) (HG.pe_c o_row_beyond hr (pa_cons (pv 0) (pa_cons (pv 1) pa_nil))))
    (pss_one (ps_ret (pe_ifExp (pt_cmpR op_isN (pv 2) pe_non (nomark _)) pe_non (pe_tup (StX.pa_star (pe_slice (sl_list.or sl_tupA) (pv 0) po_none (po_some (pv 1))) (pa_cons (pv 2) (StX.pa_star (pe_slice (sl_list.or sl_tupA) (pv 0) (po_some (pe_op op_add (pv 1) pe_int)) po_none) pa_nil))))))))))), ?_⟩
    rcases h with ⟨hb, ht⟩ | ⟨p, c, rfl, hp, hf, h⟩
    · exact ⟨_, rfl, v, _, false, rfl, hv, hb, (fun z => by cases z), fun _ H1 g1 => ht H1 g1⟩
    · obtain ⟨n, hcn, hn, hc1, hrow⟩ := rows_full hf
      have len2 : (rowsV c).length = c.length := by unfold rowsV; rw [List.length_map]
      refine ⟨_, rfl, _, _, true, rfl, hv, .inr ⟨p, _, rfl, hp, hf.symm⟩, fun _ H1 g1 => ?_, fun z => by cases z⟩
      have hp1 := hp.grow g1
      refine ⟨_, rfl, _, rfl, p, _, rfl, hp1.sq, _, _, rfl, rfl, _, _, _, rfl, hu.grow g1, _, rfl, ?_⟩
      rw [len2]
      rcases h with ⟨hw, ht⟩ | ⟨i, rfl, hi, h⟩
      · rw [hw]
        exact iteT (HX.raise_go (ht H1 g1))
      · have ew : withinV (.int (i : Nat)) 0 ((c.length : Int) - 1) = true := by
          show (decide ((0 : Int) ≤ (i : Int)) && decide ((i : Int) ≤ (c.length : Int) - 1)) = true
          rw [decide_eq_true (by omega), decide_eq_true (by omega)]
          rfl
        rw [ew]
        refine iteF ?_
        refine ⟨_, rfl, p, _, rfl, hp1.sq, rfl, _, rfl, ite2 (fun h1 => ?_) (fun h1 => ?_)⟩
        · have e1 : ((rowsV c).length : Int) = 1 := V.int.inj (of_decide_eq_true h1)
          rcases h with ⟨_, ht⟩ | ⟨h2, _⟩
          · exact HX.raise_go (ht H1 g1)
          · omega
        · rcases h with ⟨h2, ht⟩ | ⟨h2, q1, q2⟩
          · exact absurd (decide_eq_true (congrArg V.int (show ((rowsV c).length : Int) = 1 by omega))) h1
          · refine ⟨_, rfl, _, rfl, p, c, i, n, rfl, hp1, hi, hcn, hn, hrow, fun eb H2 g2 => ?_, fun r eb H2 g2 => ?_⟩
            · refine ⟨_, rfl, rfl, _, rfl, iteT ?_⟩
              exact q1 (by unfold beyC; rw [eb]; rfl) _ (g1.trans g2)
            · refine ⟨_, rfl, rfl, _, rfl, iteF ?_⟩
              have hp2 := hp1.grow g2
              refine ⟨_, rfl, _, rfl, _, rfl, cut_l hp2 fun t1 H3 g3 e3 => ?_⟩
              refine ⟨t1, _, rfl, e3.elim (fun h => .inr (SqL.of h)) (fun h => .inl (SqT.of h)), ?_⟩
              have hp3 := hp2.grow g3
              refine ⟨_, rfl, _, rfl, _, rfl, _, _, rfl, rfl, _, rfl, ?_⟩
              delta tNoPart
              dsimp only
              refine cut_l hp3 fun t2 H4 g4 e4 => ?_
              refine ⟨t2, _, rfl, e4.elim (fun h => .inr (SqL.of h)) (fun h => .inl (SqT.of h)), ?_⟩
              rw [show ((i : Int) + 1) = ((i + 1 : Nat) : Int) by omega, cut_to, cut_from]
              have er : (rowsV c).take i ++ (V.str (S r) :: ((rowsV c).drop (i + 1) ++ [])) = rowsV (c.take i ++ r :: c.drop (i + 1)) := by
                unfold rowsV
                rw [List.map_append, List.map_cons, List.map_take, List.map_drop, List.append_nil]
              have sz := sizeLine_eq
              refine ⟨?_, fun t nt => ?_⟩
              · rw [er]
                unfold rowsV
                rw [List.length_map, List.length_append, List.length_cons, List.length_take, List.length_drop]
                omega
              · refine q2 _ (by unfold beyC; rw [eb]; rfl) _ t ((((g1.trans g2).trans g3).trans g4).trans (Grow.new nt)) ?_
                rw [upd_same]
                exact congrArg (fun z => some (HO.tup z)) er
end
end K18
namespace K18
open PySem PySem.Spec PyProof.Rows L2
abbrev s__law_pen : Stmt := topS 26
theorem sc__law_pen : FnScope ["script", "cell"] ["script"] (defScope s__law_pen) := ⟨rfl, rfl, rfl, by decide +kernel, rfl, by decide +kernel, by decide +kernel⟩
abbrev s__law_draw : Stmt := topS 27
theorem sc__law_draw : FnScope ["pen", "many", "rest", "at", "cell", "mixed"] ["pen", "many"] (defScope s__law_draw) := ⟨rfl, rfl, rfl, by decide +kernel, rfl, by decide +kernel, by decide +kernel⟩
abbrev s__law_one_of : Stmt := topS 28
theorem sc__law_one_of : FnScope ["pen", "some"] ["pen", "some"] (defScope s__law_one_of) := ⟨rfl, rfl, rfl, by decide +kernel, rfl, by decide +kernel, by decide +kernel⟩
abbrev s__law_heard : Stmt := topS 29
theorem sc__law_heard : FnScope ["ask", "caught", "error", "kinds", "words", "word", "is_so"] ["ask"] (defScope s__law_heard) := ⟨rfl, rfl, rfl, by decide +kernel, rfl, by decide +kernel, by decide +kernel⟩
abbrev s__law_full : Stmt := topS 30
theorem sc__law_full : FnScope ["pen", "places", "many", "left", "row", "found", "place"] ["pen", "places", "many"] (defScope s__law_full) := ⟨rfl, rfl, rfl, by decide +kernel, rfl, by decide +kernel, by decide +kernel⟩
abbrev s__law_others : Stmt := topS 31
theorem sc__law_others : FnScope ["chain", "index", "places", "many", "found", "elder", "place", "sign", "row", "later", "mine", "its"] ["chain", "index"] (defScope s__law_others) := ⟨rfl, rfl, rfl, by decide +kernel, rfl, by decide +kernel, by decide +kernel⟩
abbrev s_law : Stmt := topS 32
theorem sc_law : FnScope ["script", "pen", "turn", "places", "chain", "kept", "index", "odd", "heard", "rows", "due", "told", "bad", "one"] ["script"] (defScope s_law) := ⟨rfl, rfl, rfl, by decide +kernel, rfl, by decide +kernel, by decide +kernel⟩
section
variable {P : Program} {w : World} {K : PySem.W.Frag} {mg : Str → Option Value} {base : Heap}
theorem ok__law_pen (T : HG.Tp K mg "_law_pen" s__law_pen ["script"]) (m_int : mg "int" = none) : FnOk P w K mg base CX0 1 T.f T.fd ["script"] (HD.spGauge K) := by
  refine T.F.ok sc__law_pen (fun vs H Q E h => ?_) (fun cdv A outer s H vs Q E hr h => ?_)
  · obtain ⟨s, ns, rfl, _⟩ := h
    rfl
  · obtain ⟨a, ns, rfl, hS, hlen, q⟩ := h
    refine ⟨_, (pss_one (ps_ret (pe_lst (pa_cons (pe_lc (own := [("cell", 1)]) (by rfl) sc__law_pen.nd (pi_list (pe_slice sl_list (pv 0) po_none (po_some pe_int))) (blkOk_by (N := ["script", "cell"]) (sc := defScope s__law_pen) (by decide +kernel)) (fun _ _ _ _ _ => (pg_name (i := 1) sc__law_pen.nd rfl (Or.inl rfl))) (fun _ _ _ _ _ => pts_nil) (fun _ _ _ _ _ => (pe_callTy call_int1 (by rfl) m_int (by decide +kernel) (pa_cons (pv 1) pa_nil)))) (pa_cons pe_int (pa_cons pe_int pa_nil)))))), ?_⟩
    refine ⟨.ref a, rfl, 60, rfl, a, _, rfl, hS, fun c0 nc0 => ?_⟩
    obtain ⟨ms, em, hm⟩ := HD.cutV_ints ns none (some 60)
    rw [em]
    refine ⟨c0, rfl, ⟨_, SqL.of upd_same⟩, fun D nD => ?_⟩
    have ncD : c0 ≠ D := fun e => by rw [← e, upd_same] at nD; cases nD
    have nD' : H D = none := by rw [upd_ne ncD.symm] at nD; exact nD
    refine lc_list (K := K) (a := c0) (xs := ms.map V.int) (fun i H2 => H2 c0 = some (.lst (ms.map V.int)) ∧ H2 D = some (.lst ((ms.take i).map V.int)) ∧ ∀ p o, H p = some o → H2 p = some o) ⟨?_, upd_same, fun p o e => ?_⟩ (fun i H2 _ p => SqL.of p.1) ?_ ?_
    · rw [upd_ne ncD, upd_same]
    · rw [upd_ne (ne_of_none e nD'), upd_ne (ne_of_none e nc0)]
      exact e
    · rintro i x H2 hx ⟨e1, e2, e3⟩
      obtain ⟨y, hy, rfl⟩ := HD.get_map hx
      refine ⟨rfl, ?_⟩
      refine ⟨_, rfl, .inl ⟨_, rfl, _, e2, ?_, ?_⟩⟩
      · rw [List.length_map, List.length_take]
        exact small1000 (by omega)
      have n1 : D ≠ c0 := ncD.symm
      refine ⟨by rw [upd_ne ncD]; exact e1, ?_, fun p o e => ?_⟩
      · rw [upd_same, HD.take_snoc hy, List.map_append]
        rfl
      · rw [upd_ne (ne_of_none e nD')]
        exact e3 p o e
    · rintro H2 ⟨e1, e2, e3⟩
      refine ⟨by show 3 ≤ sizeLine; decide, fun g ng => ?_⟩
      have ngH : H g = none := by
        cases e : H g with
        | none => rfl
        | some o => rw [e3 g o e] at ng; cases ng
      refine q g D ms _ ngH nD' ⟨upd_same, ?_, Int.le_refl 0, Int.le_refl 0, by omega⟩ fun p o e => ?_
      · rw [upd_ne (ne_of_none e2 ng), e2, List.length_map, List.take_of_length_le (Nat.le_refl _)]
      · rw [upd_ne (ne_of_none (e3 p o e) ng)]
        exact e3 p o e
theorem ok__law_draw (T : HG.Tp K mg "_law_draw" s__law_draw ["pen", "many"]) (m_int : mg "int" = none) (m_len : mg "len" = none) (m_abs : mg "abs" = none) : FnOk P w K mg base CX0 1 T.f T.fd ["pen", "many"] HD.spDraw := by
  refine T.F.ok sc__law_draw (fun vs H Q E h => ?_) (fun cdv A outer s H vs Q E hr h => ?_)
  · obtain ⟨g, c, ns, a, r, many, rfl, _⟩ := h
    rfl
  · obtain ⟨g, c, ns, a, r, many, rfl, G, m0, m1, a1, q⟩ := h
    have rd0 : ∀ {H2 : Hp} {a2 r2 : Int}, HD.Gau H2 g c ns a2 r2 → atI [V.ref c, .int a2, .int r2] (0 : Int) = some (.ref c) := fun _ => rfl
    refine ⟨_, (pss_cons (ps_set (i := 2) sc__law_draw.nd rfl (.inl rfl) (pe_callTy call_int1 (by rfl) m_int (by decide +kernel) (pa_cons (pe_ix ix_list (pv 0) pe_int (fun _ _ => rfl)) pa_nil)))
    (pss_cons (ps_if (pt_cmpR op_gt (pv 2) pe_int (nomark _))
      (pss_cons (ps_asg (pe_op op_fdiv (pv 2) (pv 1)) (pg_sub (pv 0) pe_int set_list))
      (pss_one (ps_ret (pe_op op_mod (pv 2) (pv 1)))))
      pss_nil)
    (pss_cons (ps_if (pt_cmpR (op_eqD hr.units) (pe_ix ix_list (pv 0) pe_int (fun _ _ => rfl)) (pe_lst pa_nil) (nomark _))
      (pss_one (ps_ret pe_int))
      pss_nil)
    (pss_cons (ps_set (i := 3) sc__law_draw.nd rfl (.inl rfl) (pe_ix ix_list (pv 0) pe_int (fun _ _ => rfl)))
    (pss_cons (ps_asg (pe_op op_add (pv 3) pe_int) (pg_sub (pv 0) pe_int set_list))
    (pss_cons (ps_set (i := 4) sc__law_draw.nd rfl (.inl rfl) (pe_ix ix_list (pe_ix ix_list (pv 0) pe_int (fun _ _ => rfl)) (pe_op op_mod (pe_callTy call_int1 (by rfl) m_int (by decide +kernel) (pa_cons (pv 3) pa_nil)) (pe_callB call_len_seq (by rfl) m_len PySem.boot_len (pa_cons (pe_ix ix_list (pv 0) pe_int (fun _ _ => rfl)) pa_nil))) (fun _ _ => rfl)))
    (pss_cons (ps_if (PW.pt (pw_and (pt_cmpR op_lt (pv 3) (pe_callB call_len_seq (by rfl) m_len PySem.boot_len (pa_cons (pe_ix ix_list (pv 0) pe_int (fun _ _ => rfl)) pa_nil)) (nomark _)) (pw_and1 (pt_cmpR op_ge (pe_callB call_abs (by rfl) m_abs (by decide +kernel) (pa_cons (pv 4) pa_nil)) (pe_op op_pow pe_int pe_int) (nomark _)))))
      (pss_cons (ps_set (i := 2) sc__law_draw.nd rfl (.inl rfl) (pe_op op_add (pe_op op_mul pe_int (pe_op op_sub (pe_callB call_abs (by rfl) m_abs (by decide +kernel) (pa_cons (pv 4) pa_nil)) (pe_op op_pow pe_int pe_int))) (pe_callTy call_int1 (by rfl) m_int (by decide +kernel) (pa_cons (pe_cmpR op_lt (pv 4) pe_int (nomark _)) pa_nil))))
      (pss_cons (ps_asg (pe_op op_fdiv (pv 2) (pv 1)) (pg_sub (pv 0) pe_int set_list))
      (pss_one (ps_ret (pe_op op_mod (pv 2) (pv 1))))))
      pss_nil)
    (pss_cons (ps_set (i := 5) sc__law_draw.nd rfl (.inl rfl) (pe_op op_mod (pe_callTy call_int1 (by rfl) m_int (by decide +kernel) (pa_cons (pe_op op_pow (pe_op op_add (pe_op op_add (pe_op op_mod (pe_callTy call_int1 (by rfl) m_int (by decide +kernel) (pa_cons (pv 4) pa_nil)) pe_int) (pe_op op_mul pe_int (pv 3))) pe_int) pe_int) pa_nil)) pe_int))
    (pss_cons (ps_set (i := 5) sc__law_draw.nd rfl (.inl rfl) (pe_op op_mod (pe_callTy call_int1 (by rfl) m_int (by decide +kernel) (pa_cons (pe_op op_pow (pe_op op_add (pe_op op_add (pe_op op_mul (pv 5) (pe_op op_add (pe_op op_mul pe_int (pv 3)) pe_int)) (pe_op op_mul (pe_op op_mul pe_int (pv 3)) (pv 3))) pe_int) pe_int) pa_nil)) pe_int))
    (pss_one (ps_ret (pe_op op_mod (pe_callTy call_int1 (by rfl) m_int (by decide +kernel) (pa_cons (pe_op op_fdiv (pv 5) pe_int) pa_nil)) (pv 1))))))))))))), ?_⟩
    -- rest = int(pen[2])
    refine ⟨_, rfl, g, _, 2, .int r, rfl, rfl, SqL.of G.g, rfl, .inl ⟨_, rfl, ?_⟩⟩
    refine ⟨_, rfl, _, _, rfl, rfl, _, rfl, ite2 (fun h2 => ?_) (fun h2 => ?_)⟩
    · have h2' : 0 < r := of_decide_eq_true (p := (0 : Int) < r) h2
      refine ⟨_, rfl, _, rfl, _, _, rfl, rfl, ⟨m0, by omega⟩, _, rfl, g, _, 2, 2, rfl, rfl, G.g, rfl, ?_⟩
      refine ⟨_, rfl, _, rfl, _, _, rfl, rfl, m0, ?_⟩
      exact q (r % many) a (r / many) _ (Int.emod_nonneg _ (Int.ne_of_gt m0)) (Int.emod_lt_of_pos _ m0) (by omega) (G.put rfl G.a0 (Int.ediv_nonneg (Int.le_of_lt h2') (Int.le_of_lt m0))) HG.Kp.at
    -- pen[0] == []
    · refine ⟨_, rfl, g, _, 0, .ref c, rfl, rfl, SqL.of G.g, rfl, Nat.zero_le _, fun e ne => ?_⟩
      have G1 := G.new (o := .lst []) ne
      have k1 : HG.Kp g H (upd H e (.lst [])) := HG.Kp.new ne
      refine ⟨.list (ns.map PyData.int), .list [], .lst (SqL.of G1.c) (HD.dp_ints ns), .lst (SqL.of upd_same) .nil, HD.shaped_ints ns, rfl, _, rfl, ?_⟩
      rw [HD.eqv_nil]
      refine ite2 (fun hn => ?_) (fun hn => ?_)
      · exact q 0 a r _ (Int.le_refl 0) m0 (by omega) G1 k1
      · have hne : ns ≠ [] := fun z => hn (decide_eq_true z)
        have hl : 0 < ns.length := List.length_pos_iff.mpr hne
        -- at = pen[1]; pen[1] = at + 1
        refine ⟨_, rfl, g, _, 1, .int a, rfl, rfl, SqL.of G1.g, rfl, ?_⟩
        refine ⟨_, rfl, _, _, rfl, rfl, _, rfl, g, _, 1, 1, rfl, rfl, G1.g, rfl, ?_⟩
        have G2 : HD.Gau (upd (upd H e (.lst [])) g (.lst [.ref c, .int (a + 1), .int r])) g c ns (a + 1) r := G1.put rfl (by have := G.a0; omega) G.r0
        have k2 : HG.Kp g H (upd (upd H e (.lst [])) g (.lst [.ref c, .int (a + 1), .int r])) := k1.trans HG.Kp.at
        -- cell = gauge[0][int(at) % len(gauge[0])]
        obtain ⟨cell, hcell⟩ := HD.cell_at hl a
        refine ⟨_, rfl, g, _, 0, .ref c, rfl, rfl, SqL.of G2.g, rfl, _, rfl, .inl ⟨_, rfl, _, rfl, g, _, 0, .ref c, rfl, rfl, SqL.of G2.g, rfl, c, _, rfl, .inl (SqL.of G2.c), _, _, rfl, rfl, ?_, ?_⟩⟩
        · rw [List.length_map]; omega
        refine ⟨c, _, _, .int cell, rfl, rfl, SqL.of G2.c, by rw [List.length_map]; exact hcell, ?_⟩
        have a0 := G.a0
        -- if at < len(gauge[0]) and abs(cell) >= 10 ** 18
        refine ⟨_, rfl, _, rfl, g, _, 0, .ref c, rfl, rfl, SqL.of G2.g, rfl, c, _, rfl, .inl (SqL.of G2.c), _, _, rfl, rfl, _, rfl, HD.iteS ?_ (fun _ tl => ?_)⟩
        · -- the mixed ones
          refine iteF ?_
          refine ⟨_, rfl, .inl ⟨_, rfl, _, _, rfl, rfl, (by show (0 : Int) < 2147483543; decide), _, rfl, _, _, rfl, rfl, .inl ⟨by decide, by decide⟩, _, _, rfl, rfl, _, _, rfl, rfl, _, _, rfl, rfl, ⟨by decide, by decide, ?_⟩, .inl ⟨_, rfl, _, _, rfl, rfl, (by show (0 : Int) < 2147483629; decide), ?_⟩⟩⟩
          · exact HD.small_pow (Int.emod_nonneg _ (by decide)) (Int.emod_lt_of_pos _ (by decide)) a0 a1 (by decide) (by decide) (by decide) (by decide) (by decide)
          generalize hm : (cell % (2147483543 : Int) + 61059 * a + 12095) ^ (Int.toNat 5) = big
          have b0 := Int.emod_nonneg big (show (2147483629 : Int) ≠ 0 by decide)
          have b1 := Int.emod_lt_of_pos big (show (0 : Int) < 2147483629 by decide)
          refine ⟨_, rfl, _, rfl, _, _, rfl, rfl, .inl ⟨by decide, by decide⟩, _, _, rfl, rfl, _, _, rfl, rfl, .inl ⟨by omega, by omega⟩, _, rfl, _, _, rfl, rfl, .inl ⟨by decide, by decide⟩, _, rfl, _, _, rfl, rfl, .inl ⟨by omega, by omega⟩, _, _, rfl, rfl, _, _, rfl, rfl, _, _, rfl, rfl, ⟨by decide, by decide, ?_⟩, .inl ⟨_, rfl, _, _, rfl, rfl, (by show (0 : Int) < 2147483563; decide), ?_⟩⟩
          · exact HD.small_pow2 b0 b1 a0 a1 (by decide) (by decide) (by decide) (by decide) (by decide) (by decide) (by decide)
          refine ⟨_, rfl, _, _, rfl, rfl, ⟨by decide, by decide⟩, .inl ⟨_, rfl, _, rfl, _, _, rfl, rfl, m0, ?_⟩⟩
          exact q _ (a + 1) r _ (Int.emod_nonneg _ (Int.ne_of_gt m0)) (Int.emod_lt_of_pos _ m0) (by omega) G2 k2
        · refine ⟨_, rfl, _, rfl, _, _, rfl, rfl, ⟨by decide, by decide, by decide⟩, _, _, rfl, rfl, _, rfl, ite2 (fun h5 => ?_) (fun _ => tl)⟩
          have h6 : ((10 : Int) ^ (Int.toNat 18)) ≤ (if cell < 0 then -cell else cell) := of_decide_eq_true h5
          refine ⟨_, rfl, _, rfl, _, _, rfl, rfl, ⟨by decide, by decide, by decide⟩, _, _, rfl, rfl, _, _, rfl, rfl, .inl ⟨by decide, by decide⟩, _, rfl, _, _, rfl, rfl, .inr ⟨_, rfl, _, _, rfl, rfl, ?_⟩⟩
          have h7 := HD.abs_ge h6 (if decide (cell < 0) = true then 1 else 0) (by split <;> decide)
          refine ⟨_, rfl, _, rfl, _, _, rfl, rfl, ⟨m0, by omega⟩, _, rfl, g, _, 2, 2, rfl, rfl, G2.g, rfl, ?_⟩
          refine ⟨_, rfl, _, rfl, _, _, rfl, rfl, m0, ?_⟩
          exact q _ (a + 1) _ _ (Int.emod_nonneg _ (Int.ne_of_gt m0)) (Int.emod_lt_of_pos _ m0) (by omega) (G2.put rfl (by omega) (Int.ediv_nonneg h7 (Int.le_of_lt m0))) (k2.trans HG.Kp.at)
theorem ok__law_one_of (T : HG.Tp K mg "_law_one_of" s__law_one_of ["pen", "some"]) (o__law_draw : HG.Df P w K mg base CX0 1 "_law_draw" ["pen", "many"] HD.spDraw) (m_len : mg "len" = none) : FnOk P w K mg base CX0 2 T.f T.fd ["pen", "some"] (HD.spOne K) := by
  refine T.F.ok sc__law_one_of (fun vs H Q E h => ?_) (fun cdv A outer s H vs Q E hr h => ?_)
  · obtain ⟨g, c, ns, a, r, l, xs, rfl, _⟩ := h
    rfl
  · obtain ⟨g, c, ns, a, r, l, xs, rfl, G, a1, lg, hL, hx, hl, q⟩ := h
    have h0 : 0 < xs.length := List.length_pos_iff.mpr hx
    refine ⟨_, (pss_one (ps_ret (pe_ix ix_list (pv 1) (HG.pe_c o__law_draw hr (pa_cons (pv 0) (pa_cons (pe_callB call_len_seq (by rfl) m_len PySem.boot_len (pa_cons (pv 1) pa_nil)) pa_nil))) (fun _ _ => rfl)))), ?_⟩
    refine ⟨_, rfl, _, rfl, _, rfl, l, xs, rfl, .inl hL, g, c, ns, a, r, _, rfl, G, by omega, by omega, a1, fun x a' r' H' x0 x1 ha G' kp => ?_⟩
    have hx2 : x.toNat < xs.length := by omega
    refine ⟨l, xs, x, xs[x.toNat], rfl, rfl, kp.seq lg hL, ?_, ?_⟩
    · have e := atI_nat (List.getElem?_eq_getElem hx2)
      rw [Int.toNat_of_nonneg x0] at e
      exact e
    · exact q _ a' r' H' (List.getElem_mem hx2) ha G' kp
end
end K18
namespace K18
open PySem PySem.Spec PyProof.Rows L2 HR SX HZ HL LamX
/-- which class, which word -/
def Kind (CN CC CM : Addr) (cls : Value) (word : Str) : Prop := (cls = .ref CN ∧ word = "number") ∨ (cls = .ref CC ∧ word = "chain") ∨ (cls = .ref CM ∧ word = "misfit")
/-- an error that is heard -/
def Des (CN CC CM : Addr) (Q : VK) : XK := fun cls d H' => ∃ (word : Str) (v : V) (dd : Addr), Kind CN CC CM cls word ∧ d = some dd ∧ H' dd = some (.xd [("part", v)]) ∧ ∀ H'' t, Grow H' H'' → H'' t = some (.tup [.str word, v]) → Q (.ref t) H''
def TTh (CN CC CM : Addr) : (XK → Hp → VK → Prop) → Hp → VK → Prop := fun tl H Q => ∀ (E : XK) (Q' : VK), (∀ cls d H', Des CN CC CM Q cls d H' → E cls d H') → tl E H Q'
def wordsOf (l : List (Str × Bool)) : List V := (l.filter (·.2)).map fun p => V.str p.1
theorem words_snoc (l : List (Str × Bool)) (p : Str × Bool) : wordsOf (l ++ [p]) = wordsOf l ++ (if p.2 = true then [V.str p.1] else []) := by
  unfold wordsOf
  rw [List.filter_append, List.map_append]
  by_cases h : p.2 = true
  · rw [if_pos h, List.filter_cons_of_pos h, List.filter_nil]
    rfl
  · rw [if_neg h, List.filter_cons_of_neg h, List.filter_nil]
    rfl
structure Kits (K : PySem.W.Frag) (CN CC CM : Addr) : Prop where
  nc : PySem.W.kitOne K (.ref CN) (.ref CC) = some false
  nm : PySem.W.kitOne K (.ref CN) (.ref CM) = some false
  cn : PySem.W.kitOne K (.ref CC) (.ref CN) = some false
  cm : PySem.W.kitOne K (.ref CC) (.ref CM) = some false
  mn : PySem.W.kitOne K (.ref CM) (.ref CN) = some false
  mc : PySem.W.kitOne K (.ref CM) (.ref CC) = some false
abbrev nmH : List Str := ["ask", "caught", "error", "kinds", "words", "word", "is_so"]
theorem heard_gives {X : Cx} {g : Addr} {cdg : Value} {q : Str} {S : Addr} (hg0 : X.A.guards = X.A.guards) (m_StairError : X.mg "StairError" = some (.ref S)) (e_BadNumber : HX.Er X.prog X.w X.K X.mg X.base "BadNumber") (e_BadChain : HX.Er X.prog X.w X.K X.mg X.base "BadChain") (e_Misfit : HX.Er X.prog X.w X.K X.mg X.base "Misfit")
    (xN : PySem.W.exmOne X.K (.ref e_BadNumber.C) (.ref S) = some true) (xC : PySem.W.exmOne X.K (.ref e_BadChain.C) (.ref S) = some true) (xM : PySem.W.exmOne X.K (.ref e_Misfit.C) (.ref S) = some true) (kits : Kits X.K e_BadNumber.C e_BadChain.C e_Misfit.C)
    (m_isinstance : X.mg "isinstance" = none) (m_len : X.mg "len" = none) : GiveL X nmH "_law_heard" (defScope s__law_heard) g cdg (defBody s__law_heard) "ask" q (TTh e_BadNumber.C e_BadChain.C e_Misfit.C) := by
  intro f c' s H Q tl act hc hT
  let Y := (cxOf CX0 X.prog X.w X.K X.mg X.base nmH "_law_heard" (defScope s__law_heard) g cdg X.A X.stack s H E0).nox
  refine ⟨_, (pss_cons (ps_set (i := 1) sc__law_heard.nd rfl (.inl rfl) pe_non)
    (pss_cons (HX.ps_try_keep (X := Y) (i := 2) (tb := fun W D σ H => σ[0]? = some (some (.ref f)) ∧ H c' = some (CodeO c' q) ∧ tl (WE W σ) H (fun _ H' => D.nx σ H')) rfl rfl rfl sc__law_heard.nd rfl rfl ⟨by rfl, by decide, .inl m_StairError⟩ (fun W pn xe tk _ => pss_one (ps_expr (act W pn xe _ _ tk))) (fun a oe cls d pn _ _ =>
      (pss_one (ps_set (i := 1) sc__law_heard.nd rfl (.inl rfl) (pv 2)))))
    (pss_cons (ps_set (i := 3) sc__law_heard.nd rfl (.inl rfl) (pe_lst (pa_cons (pe_tup (pa_cons pe_str (pa_cons (pe_callB HX.call_isU (by rfl) m_isinstance (by decide +kernel) (pa_cons (pv 1) (pa_cons (pe_glob (v := .ref e_BadNumber.C) (by rfl) e_BadNumber.m rfl) pa_nil))) pa_nil))) (pa_cons (pe_tup (pa_cons pe_str (pa_cons (pe_callB HX.call_isU (by rfl) m_isinstance (by decide +kernel) (pa_cons (pv 1) (pa_cons (pe_glob (v := .ref e_BadChain.C) (by rfl) e_BadChain.m rfl) pa_nil))) pa_nil))) (pa_cons (pe_tup (pa_cons pe_str (pa_cons (pe_callB HX.call_isU (by rfl) m_isinstance (by decide +kernel) (pa_cons (pv 1) (pa_cons (pe_glob (v := .ref e_Misfit.C) (by rfl) e_Misfit.m rfl) pa_nil))) pa_nil))) pa_nil)))))
    (pss_cons (ps_setLc (i := 4) (own := [("word", 5), ("is_so", 6)]) rfl sc__law_heard.nd rfl rfl (sw_true rfl rfl rfl (by decide +kernel)) (pi_list (pv 3)) (blkOk_by (N := nmH) (sc := defScope s__law_heard) (by decide +kernel)) (fun _ _ _ _ _ => (pg_tupK (n := 2) X.K (by rfl) rfl (pgs_cons (pg_name (i := 5) sc__law_heard.nd rfl (Or.inl rfl)) (pgs_cons (pg_name (i := 6) sc__law_heard.nd rfl (Or.inl rfl)) pgs_nil)))) (fun _ _ _ _ _ => (pts_one (pt_val (pv 6)))) (fun _ _ _ _ _ => (pv 5)))
    (pss_cons (ps_if (pt_cmpR op_eq (pe_callB call_len_seq (by rfl) m_len PySem.boot_len (pa_cons (pv 4) pa_nil)) pe_int (nomark _))
      (pss_one (ps_ret (pe_tup (pa_cons (pe_ix ix_list (pv 4) pe_int (fun _ _ => rfl)) (pa_cons (HX.pe_err (pv 1)) pa_nil)))))
      pss_nil)
    (pss_one (ps_ret (pe_ifExp (pt_cmpR op_isN (pv 1) pe_non (nomark _)) pe_non (pe_tup (pa_cons pe_str (pa_cons pe_non pa_nil))))))))))), ?_⟩
  refine ⟨rfl, hc, hT _ _ fun cls d HE hd => ?_⟩
  obtain ⟨word, v, dd, hk, rfl, hdd, hQ⟩ := hd
  obtain ⟨C, b1, b2, b3, rfl, eC, nC, xS, k1, k2, k3, hw⟩ : ∃ (C : Addr) (b1 b2 b3 : Bool), cls = .ref C ∧ HX.ErrC X.K C ∧ PySem.W.findIn X.K (.ref C) "part" = some none ∧ PySem.W.exmOne X.K (.ref C) (.ref S) = some true ∧
      PySem.W.kitOne X.K (.ref C) (.ref e_BadNumber.C) = some b1 ∧ PySem.W.kitOne X.K (.ref C) (.ref e_BadChain.C) = some b2 ∧ PySem.W.kitOne X.K (.ref C) (.ref e_Misfit.C) = some b3 ∧ wordsOf [("number", b1), ("chain", b2), ("misfit", b3)] = [V.str word] := by
    rcases hk with ⟨rfl, rfl⟩ | ⟨rfl, rfl⟩ | ⟨rfl, rfl⟩
    · exact ⟨_, true, false, false, rfl, e_BadNumber.err, e_BadNumber.no, xN, HX.kit_self, kits.nc, kits.nm, rfl⟩
    · exact ⟨_, false, true, false, rfl, e_BadChain.err, e_BadChain.no, xC, kits.cn, HX.kit_self, kits.cm, rfl⟩
    · exact ⟨_, false, false, true, rfl, e_Misfit.err, e_Misfit.no, xM, kits.mn, kits.mc, HX.kit_self, rfl⟩
  refine ⟨xS, fun ea na => ⟨_, rfl, fun na' => ?_⟩⟩
  have g0 : Grow HE (upd HE ea (HX.errO ea (.ref C) (some dd))) := Grow.new na
  have he : (upd HE ea (HX.errO ea (.ref C) (some dd))) ea = some (HX.errO ea (.ref C) (some dd)) := upd_same
  have hd' := g0 _ _ hdd
  generalize upd HE ea (HX.errO ea (.ref C) (some dd)) = H0 at g0 he hd'
  refine ⟨_, rfl, .inr ⟨ea, C, dd, _, .ref e_BadNumber.C, .ref e_BadNumber.C, b1, rfl, he, hd', eC, ClsV.own _, k1, by show 2 ≤ sizeLine; decide, fun p1 n1 => ?_⟩⟩
  have g1 : Grow H0 (upd H0 p1 (.tup [.str "number", .bl b1])) := Grow.new n1
  have a1 : (upd H0 p1 (.tup [.str "number", .bl b1])) p1 = some (.tup [.str "number", .bl b1]) := upd_same
  generalize upd H0 p1 (.tup [.str "number", .bl b1]) = H1 at g1 a1
  refine ⟨_, rfl, .inr ⟨ea, C, dd, _, .ref e_BadChain.C, .ref e_BadChain.C, b2, rfl, g1 _ _ he, g1 _ _ hd', eC, ClsV.own _, k2, by show 2 ≤ sizeLine; decide, fun p2 n2 => ?_⟩⟩
  have g2 : Grow H1 (upd H1 p2 (.tup [.str "chain", .bl b2])) := Grow.new n2
  have a2 : (upd H1 p2 (.tup [.str "chain", .bl b2])) p2 = some (.tup [.str "chain", .bl b2]) := upd_same
  generalize upd H1 p2 (.tup [.str "chain", .bl b2]) = H2 at g2 a2
  refine ⟨_, rfl, .inr ⟨ea, C, dd, _, .ref e_Misfit.C, .ref e_Misfit.C, b3, rfl, g2 _ _ (g1 _ _ he), g2 _ _ (g1 _ _ hd'), eC, ClsV.own _, k3, by show 2 ≤ sizeLine; decide, fun p3 n3 => ?_⟩⟩
  have g3 : Grow H2 (upd H2 p3 (.tup [.str "misfit", .bl b3])) := Grow.new n3
  have a3 : (upd H2 p3 (.tup [.str "misfit", .bl b3])) p3 = some (.tup [.str "misfit", .bl b3]) := upd_same
  generalize upd H2 p3 (.tup [.str "misfit", .bl b3]) = H3 at g3 a3
  refine ⟨by show 3 ≤ sizeLine; decide, fun l nl => ?_⟩
  have g4 : Grow H3 (upd H3 l (.lst [.ref p1, .ref p2, .ref p3])) := Grow.new nl
  have a4 : (upd H3 l (.lst [.ref p1, .ref p2, .ref p3])) l = some (.lst [.ref p1, .ref p2, .ref p3]) := upd_same
  generalize upd H3 l (.lst [.ref p1, .ref p2, .ref p3]) = H4 at g4 a4
  have G4 : Grow H0 H4 := ((g1.trans g2).trans g3).trans g4
  have t1 := g4 _ _ (g3 _ _ (g2 _ _ a1))
  have t2 := g4 _ _ (g3 _ _ a2)
  have t3 := g4 _ _ a3
  refine ⟨_, rfl, l, rfl, ⟨_, SqL.of a4⟩, fun D nD => ?_⟩
  refine lc_it (walk_list (K := X.K) (a := l) (xs := [.ref p1, .ref p2, .ref p3])) (fun i H5 => Grow H4 H5 ∧ H5 D = some (.lst (wordsOf ([(("number" : Str), b1), ("chain", b2), ("misfit", b3)].take i)))) ⟨Grow.new nD, upd_same⟩ (fun i H5 _ z => SqL.of (z.1 _ _ a4)) ?_ ?_
  · rintro i x H5 H6 hi ⟨g5, e5⟩ ⟨rfl, hx⟩
    obtain ⟨p, wd, b, rfl, hp, ht⟩ : ∃ (p : Addr) (wd : Str) (b : Bool), x = .ref p ∧ [(("number" : Str), b1), ("chain", b2), ("misfit", b3)][i]? = some (wd, b) ∧ H4 p = some (.tup [.str wd, .bl b]) := by
      match i, hi, hx with
      | 0, _, hx => cases hx; exact ⟨p1, _, _, rfl, rfl, t1⟩
      | 1, _, hx => cases hx; exact ⟨p2, _, _, rfl, rfl, t2⟩
      | 2, _, hx => cases hx; exact ⟨p3, _, _, rfl, rfl, t3⟩
      | i + 3, hi, _ => exact absurd hi (by show ¬ i + 3 < 3; omega)
    refine ⟨p, _, rfl, SqT.of (g5 _ _ ht), rfl, _, _, rfl, _, _, rfl, rfl, ?_⟩
    refine ⟨rfl, _, rfl, b, rfl, ?_⟩
    cases b with
    | true =>
      refine iteT ⟨_, rfl, _, e5, ?_, fun q o e => ?_, ?_⟩
      · refine small1000 ?_
        unfold wordsOf
        rw [List.length_map]
        have := List.length_filter_le (·.2) ([(("number" : Str), b1), ("chain", b2), ("misfit", b3)].take i)
        rw [List.length_take] at this
        have : i < 3 := hi
        omega
      · rw [upd_ne (ne_of_none e nD)]
        exact g5 q o e
      · rw [upd_same, HD.take_snoc hp, words_snoc]
        rfl
    | false =>
      refine iteF ⟨g5, ?_⟩
      rw [e5, HD.take_snoc hp, words_snoc]
      rw [if_neg (show ¬ (wd, false).2 = true from Bool.false_ne_true), List.append_nil]
  · rintro H5 ⟨g5, e5⟩
    have e6 : H5 D = some (.lst [.str word]) := e5.trans (congrArg (fun z => some (HO.lst z)) hw)
    refine ⟨_, rfl, D, _, rfl, .inl (SqL.of e6), rfl, _, rfl, iteT' (decide_eq_true rfl) ?_⟩
    have G5 := G4.trans g5
    refine ⟨_, rfl, D, _, 0, .str word, rfl, rfl, SqL.of e6, atI_nat (j := 0) rfl, _, rfl, ea, C, dd, _, v, rfl, G5 _ _ he, G5 _ _ hd', eC, nC, rfl, by show 2 ≤ sizeLine; decide, fun t nt => ?_⟩
    exact hQ _ t ((g0.trans G5).trans (Grow.new nt)) upd_same
end K18
namespace K18
open PySem PySem.Spec PyProof.Rows L2 HR SX HZ
/-! ### d-chains by their steps -/
def sgO : List (Nat × Nat) → Nat → Nat
  | [], _ => 48
  | s :: l, p => if s.1 = p then s.2 else sgO l p
def rowF (n : Nat) (l : List (Nat × Nat)) : List Nat := (List.range n).map (sgO l)
def chR (n : Nat) : List (Nat × Nat) → List (Nat × Nat) → List (List Nat)
  | _, [] => []
  | acc, s :: r => rowF n (acc ++ [s]) :: chR n (acc ++ [s]) r
def plc (l : List (Nat × Nat)) : List Nat := l.map Prod.fst
structure Steps (n m : Nat) (ps : List (Nat × Nat)) : Prop where
  len : ps.length = m
  m2 : 2 ≤ m
  mn : m ≤ n
  n12 : n ≤ 12
  at_ : ∀ s ∈ ps, s.1 < m ∧ (s.2 = 43 ∨ s.2 = 45)
  nd : (plc ps).Nodup
  cov : ∀ p, p < m → p ∈ plc ps
theorem sgO_out : ∀ {l : List (Nat × Nat)} {p : Nat}, p ∉ plc l → sgO l p = 48
  | [], _, _ => rfl
  | s :: l, p, h => by
    have h1 : s.1 ≠ p := fun e => h (by unfold plc; rw [List.map_cons, e]; exact List.mem_cons_self)
    show (if s.1 = p then _ else _) = _
    rw [if_neg h1]
    exact sgO_out fun hm => h (List.mem_cons_of_mem _ hm)
theorem sgO_app : ∀ (a b : List (Nat × Nat)) (p : Nat), sgO (a ++ b) p = if p ∈ plc a then sgO a p else sgO b p
  | [], b, p => by
    rw [if_neg (show p ∉ plc [] from List.not_mem_nil)]
    rfl
  | s :: a, b, p => by
    show (if s.1 = p then _ else sgO (a ++ b) p) = if p ∈ plc (s :: a) then (if s.1 = p then s.2 else sgO a p) else sgO b p
    by_cases h : s.1 = p
    · rw [if_pos h, if_pos h, if_pos (by unfold plc; rw [List.map_cons, h]; exact List.mem_cons_self)]
    · rw [if_neg h, if_neg h, sgO_app a b p]
      by_cases h2 : p ∈ plc a
      · rw [if_pos h2, if_pos (show p ∈ plc (s :: a) from List.mem_cons_of_mem _ h2)]
      · rw [if_neg h2, if_neg]
        intro hm
        rcases List.mem_cons.mp (show p ∈ s.1 :: plc a from hm) with e | e
        · exact h e.symm
        · exact h2 e
theorem sgO_one (l : List (Nat × Nat)) (s : Nat × Nat) (p : Nat) (h : s.1 ∉ plc l) : sgO (l ++ [s]) p = if p = s.1 then s.2 else sgO l p := by
  rw [sgO_app]
  by_cases e : p = s.1
  · rw [if_pos e, if_neg (by rw [e]; exact h)]
    show (if s.1 = p then s.2 else 48) = _
    rw [if_pos e.symm]
  · rw [if_neg e]
    by_cases hm : p ∈ plc l
    · rw [if_pos hm]
    · rw [if_neg hm, sgO_out hm]
      show (if s.1 = p then s.2 else 48) = _
      rw [if_neg fun z => e z.symm]
theorem sgO_in : ∀ {l : List (Nat × Nat)} {p : Nat}, p ∈ plc l → (∀ s ∈ l, s.2 = 43 ∨ s.2 = 45) → sgO l p = 43 ∨ sgO l p = 45
  | [], p, h, _ => absurd h List.not_mem_nil
  | s :: l, p, h, k => by
    show (if s.1 = p then s.2 else sgO l p) = 43 ∨ (if s.1 = p then s.2 else sgO l p) = 45
    by_cases e : s.1 = p
    · rw [if_pos e]
      exact k s List.mem_cons_self
    · rw [if_neg e]
      rcases List.mem_cons.mp (show p ∈ s.1 :: plc l from h) with z | z
      · exact absurd z.symm e
      · exact sgO_in z fun s hs => k s (List.mem_cons_of_mem _ hs)
theorem sgO_sgn {l : List (Nat × Nat)} (k : ∀ s ∈ l, s.2 = 43 ∨ s.2 = 45) (p : Nat) : sgO l p = 43 ∨ sgO l p = 45 ∨ sgO l p = 48 := by
  by_cases h : p ∈ plc l
  · rcases sgO_in h k with z | z
    · exact .inl z
    · exact .inr (.inl z)
  · exact .inr (.inr (sgO_out h))
theorem rowF_len (n : Nat) (l : List (Nat × Nat)) : (rowF n l).length = n := by
  unfold rowF
  rw [List.length_map, List.length_range]
theorem rowF_at {n p : Nat} (l : List (Nat × Nat)) (h : p < n) : (rowF n l)[p]? = some (sgO l p) := by
  unfold rowF
  rw [List.getElem?_map, List.getElem?_range h]
  rfl
theorem rowF_getD {n p : Nat} (l : List (Nat × Nat)) (h : p < n) (d : Nat) : (rowF n l).getD p d = sgO l p := by
  rw [List.getD_eq_getElem?_getD, rowF_at l h]
  rfl
theorem row_ext {n : Nat} {x : List Nat} {l : List (Nat × Nat)} (h : x.length = n) (k : ∀ p, p < n → x[p]? = some (sgO l p)) : x = rowF n l := by
  refine List.ext_getElem? fun p => ?_
  by_cases hp : p < n
  · rw [k p hp, rowF_at l hp]
  · rw [List.getElem?_eq_none (by omega), List.getElem?_eq_none (by rw [rowF_len]; omega)]
theorem rowF_eq {n : Nat} {a b : List (Nat × Nat)} (h : ∀ p, p < n → sgO a p = sgO b p) : rowF n a = rowF n b := row_ext (rowF_len n a) fun p hp => by rw [rowF_at a hp, h p hp]
theorem rowF_with {n : Nat} {l : List (Nat × Nat)} {s : Nat × Nat} (h : s.1 ∉ plc l) (hn : s.1 < n) : withS (rowF n l) s.1 s.2 = rowF n (l ++ [s]) := by
  refine row_ext (by rw [withS_len (by rw [rowF_len]; exact hn), rowF_len]) fun p hp => ?_
  rw [sgO_one l s p h]
  unfold withS
  by_cases e : p = s.1
  · rw [if_pos e, e]
    rw [List.getElem?_append_left (by rw [List.length_append, List.length_take, rowF_len]; show s.1 < min s.1 n + 1; omega), List.getElem?_append_right (by rw [List.length_take, rowF_len]; omega)]
    rw [List.length_take, rowF_len, show s.1 - min s.1 n = 0 by omega]
    rfl
  · rw [if_neg e]
    by_cases lt : p < s.1
    · rw [List.getElem?_append_left (by rw [List.length_append, List.length_take, rowF_len]; show p < min s.1 n + 1; omega), List.getElem?_append_left (by rw [List.length_take, rowF_len]; omega), List.getElem?_take, if_pos lt, rowF_at l hp]
    · rw [List.getElem?_append_right (by rw [List.length_append, List.length_take, rowF_len]; show min s.1 n + 1 ≤ p; omega), List.getElem?_drop, List.length_append, List.length_take, rowF_len]
      show (rowF n l)[s.1 + 1 + (p - (min s.1 n + 1))]? = _
      rw [show s.1 + 1 + (p - (min s.1 n + 1)) = p by omega, rowF_at l hp]
/-! ### chR -/
theorem chR_len (n : Nat) : ∀ (ps acc : List (Nat × Nat)), (chR n acc ps).length = ps.length
  | [], _ => rfl
  | s :: r, acc => congrArg Nat.succ (chR_len n r (acc ++ [s]))
theorem chR_app (n : Nat) : ∀ (a b acc : List (Nat × Nat)), chR n acc (a ++ b) = chR n acc a ++ chR n (acc ++ a) b
  | [], b, acc => by
    rw [List.append_nil]
    rfl
  | s :: a, b, acc => by
    show rowF n (acc ++ [s]) :: chR n (acc ++ [s]) (a ++ b) = rowF n (acc ++ [s]) :: (chR n (acc ++ [s]) a ++ chR n (acc ++ s :: a) b)
    rw [chR_app n a b (acc ++ [s]), List.append_assoc]
    rfl
theorem chR_at (n : Nat) : ∀ (ps acc : List (Nat × Nat)) (i : Nat), i < ps.length → (chR n acc ps)[i]? = some (rowF n (acc ++ ps.take (i + 1)))
  | [], _, i, h => absurd h (Nat.not_lt_zero _)
  | s :: r, acc, 0, _ => rfl
  | s :: r, acc, i + 1, h => by
    show (chR n (acc ++ [s]) r)[i]? = _
    rw [chR_at n r (acc ++ [s]) i (Nat.lt_of_succ_lt_succ h), List.append_assoc]
    rfl
theorem chR_congr (n : Nat) : ∀ (C X Y : List (Nat × Nat)), (∀ Z p, sgO (X ++ Z) p = sgO (Y ++ Z) p) → chR n X C = chR n Y C
  | [], _, _, _ => rfl
  | s :: C, X, Y, h => by
    show rowF n (X ++ [s]) :: chR n (X ++ [s]) C = rowF n (Y ++ [s]) :: chR n (Y ++ [s]) C
    rw [rowF_eq fun p _ => h [s] p, chR_congr n C (X ++ [s]) (Y ++ [s]) fun Z p => by rw [List.append_assoc, List.append_assoc]; exact h _ p]
abbrev chF (n : Nat) (ps : List (Nat × Nat)) : List (List Nat) := chR n [] ps
theorem chF_getD {n i : Nat} {ps : List (Nat × Nat)} (h : i < ps.length) : (chF n ps).getD i [] = rowF n (ps.take (i + 1)) := by
  rw [List.getD_eq_getElem?_getD, chR_at n ps [] i h]
  rfl
theorem zeros (n : Nat) : List.replicate n 48 = rowF n [] := row_ext List.length_replicate fun p hp => by
  rw [List.getElem?_replicate, if_pos hp]
  rfl
theorem chF_low {n i : Nat} {ps : List (Nat × Nat)} (h : i < ps.length) : lowL (chF n ps) i = rowF n (ps.take i) := by
  unfold lowL
  by_cases h0 : 0 < i
  · rw [if_pos h0, chF_getD (by omega), show i - 1 + 1 = i by omega]
  · rw [if_neg h0, chF_getD h, rowF_len, show i = 0 by omega, List.take_zero]
    exact zeros n
/-! ### what lies beyond, by steps -/
theorem sgO_swap (A D : List (Nat × Nat)) {a b : Nat × Nat} (h : a.1 ≠ b.1) (p : Nat) : sgO (A ++ a :: b :: D) p = sgO (A ++ b :: a :: D) p := by
  rw [sgO_app, sgO_app]
  show (if p ∈ plc A then _ else if a.1 = p then a.2 else if b.1 = p then b.2 else sgO D p) = if p ∈ plc A then _ else if b.1 = p then b.2 else if a.1 = p then a.2 else sgO D p
  by_cases hm : p ∈ plc A
  · rw [if_pos hm, if_pos hm]
  · rw [if_neg hm, if_neg hm]
    by_cases e : a.1 = p
    · rw [if_pos e, if_neg (fun z => h (e.trans z.symm)), if_pos e]
    · rw [if_neg e, if_neg e]
theorem take_mid {A R : List (Nat × Nat)} : (A ++ R).take A.length = A := List.take_left' rfl
theorem take_mid1 {A R : List (Nat × Nat)} {a : Nat × Nat} : (A ++ a :: R).take (A.length + 1) = A ++ [a] := by
  rw [show A ++ a :: R = (A ++ [a]) ++ R by simp]
  exact List.take_left' (by simp)
theorem take_mid2 {A R : List (Nat × Nat)} {a b : Nat × Nat} : (A ++ a :: b :: R).take (A.length + 1 + 1) = A ++ [a, b] := by
  rw [show A ++ a :: b :: R = (A ++ [a, b]) ++ R by simp]
  exact List.take_left' (by simp)
theorem plc_app (a b : List (Nat × Nat)) : plc (a ++ b) = plc a ++ plc b := List.map_append
theorem nd_parts {A R : List (Nat × Nat)} {a : Nat × Nat} (h : (plc (A ++ a :: R)).Nodup) : a.1 ∉ plc A ∧ a.1 ∉ plc R ∧ ∀ b ∈ R, b.1 ∉ plc A ∧ b.1 ≠ a.1 := by
  rw [plc_app] at h
  obtain ⟨h1, h2, h3⟩ := List.nodup_append.mp h
  have h4 : a.1 ∉ plc R := (List.nodup_cons.mp (show (a.1 :: plc R).Nodup from h2)).1
  refine ⟨fun hm => h3 _ hm _ (show a.1 ∈ a.1 :: plc R from List.mem_cons_self) rfl, h4, fun b hb => ⟨fun hm => h3 _ hm _ (show b.1 ∈ a.1 :: plc R from List.mem_cons_of_mem _ (List.mem_map_of_mem hb)) rfl, fun e => h4 (by rw [← e]; exact List.mem_map_of_mem hb)⟩⟩
theorem rowB_mid {n : Nat} {A C : List (Nat × Nat)} {a b : Nat × Nat} (nd : (plc (A ++ a :: b :: C)).Nodup) (sg : ∀ s ∈ A ++ a :: b :: C, s.2 = 43 ∨ s.2 = 45) : rowB (chF n (A ++ a :: b :: C)) A.length = some (rowF n (A ++ [b])) := by
  have hl : A.length < (A ++ a :: b :: C).length := by simp
  have hl2 : A.length + 1 < (A ++ a :: b :: C).length := by simp
  unfold rowB
  rw [chR_len, if_pos hl2, chF_low hl, chF_getD hl, chF_getD hl2, take_mid, take_mid1, take_mid2]
  congr 1
  obtain ⟨na, _, nb⟩ := nd_parts nd
  obtain ⟨nbA, nba⟩ := nb b List.mem_cons_self
  refine row_ext (midL_len (rowF_len _ _) (rowF_len _ _) (rowF_len _ _)) fun p hp => ?_
  rw [midL_at (rowF_at _ hp) (rowF_at _ hp) (rowF_at _ hp), sgO_one A a p na, sgO_one A b p nbA]
  have e2 : sgO (A ++ [a, b]) p = if p = b.1 then b.2 else if p = a.1 then a.2 else sgO A p := by
    rw [show A ++ [a, b] = (A ++ [a]) ++ [b] by simp, sgO_one (A ++ [a]) b p, sgO_one A a p na]
    rw [plc_app]
    intro hm
    rcases List.mem_append.mp hm with z | z
    · exact nbA z
    · exact nba (List.mem_singleton.mp (show b.1 ∈ [a.1] from z))
  rw [e2]
  by_cases ea : p = a.1
  · have eb : p ≠ b.1 := fun z => nba (z.symm.trans ea)
    have e48 : sgO A p = 48 := sgO_out (by rw [ea]; exact na)
    have sa := sg a (List.mem_append_right _ List.mem_cons_self)
    rw [if_pos ea, if_neg eb, if_neg eb, e48]
    rw [if_neg (by rcases sa with z | z <;> rw [z] <;> decide)]
  · rw [if_neg ea, if_pos rfl]
theorem oppS_ne {c : Nat} (h : c = 43 ∨ c = 45) : oppS c ≠ c ∧ (oppS c = 43 ∨ oppS c = 45) ∧ oppS (oppS c) = c := by
  rcases h with rfl | rfl <;> decide
theorem rowB_last {n : Nat} {A : List (Nat × Nat)} {a : Nat × Nat} (nd : (plc (A ++ [a])).Nodup) (sg : ∀ s ∈ A ++ [a], s.2 = 43 ∨ s.2 = 45) (hn : A.length < n) (cov : ∀ p, p < A.length + 1 → p ∈ plc (A ++ [a])) :
    rowB (chF n (A ++ [a])) A.length = if a.1 = A.length then none else some (rowF n (A ++ [(a.1, oppS a.2)])) := by
  have hl : A.length < (A ++ [a]).length := by simp
  have hl2 : ¬ A.length + 1 < (A ++ [a]).length := by simp
  obtain ⟨na, _, _⟩ := nd_parts nd
  unfold rowB
  rw [chR_len, if_neg hl2, chF_low hl, chF_getD hl, take_mid, take_mid1, rowF_getD _ hn]
  have key : (sgO A A.length = 48) ↔ a.1 = A.length := by
    constructor
    · intro h
      have hm := cov A.length (by omega)
      rw [plc_app] at hm
      rcases List.mem_append.mp hm with z | z
      · rcases sgO_in z (fun s hs => sg s (List.mem_append_left _ hs)) with e | e <;> omega
      · exact (List.mem_singleton.mp (show A.length ∈ [a.1] from z)).symm
    · intro h
      exact sgO_out (by rw [← h]; exact na)
  by_cases h : a.1 = A.length
  · rw [if_pos (key.mpr h), if_pos h]
  · rw [if_neg (fun z => h (key.mp z)), if_neg h]
    congr 1
    refine row_ext (turnL_len (rowF_len _ _) (rowF_len _ _)) fun p hp => ?_
    rw [turnL_at (rowF_at _ hp) (rowF_at _ hp), sgO_one A a p na, sgO_one A (a.1, oppS a.2) p na]
    have sa := sg a (List.mem_append_right _ List.mem_cons_self)
    by_cases ea : p = a.1
    · have e48 : sgO A p = 48 := sgO_out (by rw [ea]; exact na)
      rw [if_pos ea, if_pos ea, e48, if_neg (by rcases sa with z | z <;> rw [z] <;> decide)]
    · rw [if_neg ea, if_neg ea, if_pos rfl]
theorem beyC_mid {n : Nat} {A C : List (Nat × Nat)} {a b : Nat × Nat} (nd : (plc (A ++ a :: b :: C)).Nodup) (sg : ∀ s ∈ A ++ a :: b :: C, s.2 = 43 ∨ s.2 = 45) : beyC (chF n (A ++ a :: b :: C)) A.length = some (chF n (A ++ b :: a :: C)) := by
  unfold beyC
  rw [rowB_mid nd sg]
  show some _ = some _
  congr 1
  have e1 : chF n (A ++ a :: b :: C) = chR n [] A ++ rowF n (A ++ [a]) :: rowF n (A ++ [a] ++ [b]) :: chR n (A ++ [a] ++ [b]) C := chR_app n A (a :: b :: C) []
  have e2 : chF n (A ++ b :: a :: C) = chR n [] A ++ rowF n (A ++ [b]) :: rowF n (A ++ [b] ++ [a]) :: chR n (A ++ [b] ++ [a]) C := chR_app n A (b :: a :: C) []
  have la : (chR n [] A).length = A.length := chR_len n A []
  rw [e1, e2, List.take_left' la, List.drop_append, la, List.drop_of_length_le (by omega), List.nil_append, show A.length + 1 - A.length = 1 by omega]
  show _ ++ rowF n (A ++ [b]) :: rowF n (A ++ [a] ++ [b]) :: chR n (A ++ [a] ++ [b]) C = _
  obtain ⟨_, _, nb⟩ := nd_parts nd
  have nba := (nb b List.mem_cons_self).2
  have sw : ∀ Z p, sgO (A ++ [a] ++ [b] ++ Z) p = sgO (A ++ [b] ++ [a] ++ Z) p := fun Z p => by
    have := sgO_swap A Z (fun z => nba z.symm) p (a := a) (b := b)
    simpa using this
  rw [rowF_eq (a := A ++ [a] ++ [b]) (b := A ++ [b] ++ [a]) fun p _ => by have := sw [] p; simpa using this, chR_congr n C _ _ sw]
theorem beyC_last {n : Nat} {A : List (Nat × Nat)} {a : Nat × Nat} (nd : (plc (A ++ [a])).Nodup) (sg : ∀ s ∈ A ++ [a], s.2 = 43 ∨ s.2 = 45) (hn : A.length < n) (cov : ∀ p, p < A.length + 1 → p ∈ plc (A ++ [a])) :
    beyC (chF n (A ++ [a])) A.length = if a.1 = A.length then none else some (chF n (A ++ [(a.1, oppS a.2)])) := by
  unfold beyC
  rw [rowB_last nd sg hn cov]
  by_cases h : a.1 = A.length
  · rw [if_pos h, if_pos h]
    rfl
  · rw [if_neg h, if_neg h]
    show some _ = some _
    congr 1
    have e1 : ∀ s, chF n (A ++ [s]) = chR n [] A ++ [rowF n (A ++ [s])] := fun s => chR_app n A [s] []
    have la : (chR n [] A).length = A.length := chR_len n A []
    rw [e1, e1, List.take_left' la, List.drop_of_length_le (by rw [List.length_append, la]; exact Nat.le_refl _)]
/-- the steps of what lies beyond -/
theorem beyond_steps {n m i : Nat} {ps : List (Nat × Nat)} (S8 : Steps n m ps) (hi : i < m) :
    (beyC (chF n ps) i = none ∧ rowB (chF n ps) i = none ∧ i + 1 = m ∧ sgO (ps.take i) i = 48) ∨
    (∃ qs, beyC (chF n ps) i = some (chF n qs) ∧ Steps n m qs ∧ beyC (chF n qs) i = some (chF n ps) ∧ ¬ (i + 1 = m ∧ sgO (ps.take i) i = 48)) := by
  have hl := S8.len
  have sg : ∀ s ∈ ps, s.2 = 43 ∨ s.2 = 45 := fun s hs => (S8.at_ s hs).2
  by_cases h : i + 1 < m
  · obtain ⟨A, a, b, C, rfl, hA⟩ : ∃ A a b C, ps = A ++ a :: b :: C ∧ A.length = i := by
      refine ⟨ps.take i, ps[i], ps[i + 1], ps.drop (i + 2), ?_, by rw [List.length_take]; omega⟩
      rw [List.getElem_cons_drop, List.getElem_cons_drop, List.take_append_drop]
    subst hA
    refine .inr ⟨A ++ b :: a :: C, beyC_mid S8.nd sg, ?_, ?_, fun z => by omega⟩
    · have pm : (A ++ b :: a :: C).Perm (A ++ a :: b :: C) := List.Perm.append_left A (List.Perm.swap a b C)
      have pp : (plc (A ++ b :: a :: C)).Perm (plc (A ++ a :: b :: C)) := pm.map _
      exact ⟨by rw [pm.length_eq]; exact hl, S8.m2, S8.mn, S8.n12, fun s hs => S8.at_ s (pm.mem_iff.mp hs), pp.nodup_iff.mpr S8.nd, fun p hp => pp.mem_iff.mpr (S8.cov p hp)⟩
    · have pm : (A ++ b :: a :: C).Perm (A ++ a :: b :: C) := List.Perm.append_left A (List.Perm.swap a b C)
      have pp : (plc (A ++ b :: a :: C)).Perm (plc (A ++ a :: b :: C)) := pm.map _
      exact beyC_mid (pp.nodup_iff.mpr S8.nd) fun s hs => sg s (pm.mem_iff.mp hs)
  · obtain ⟨A, a, rfl, hA⟩ : ∃ A a, ps = A ++ [a] ∧ A.length = i := by
      refine ⟨ps.take i, ps[i], ?_, by rw [List.length_take]; omega⟩
      rw [show [ps[i]] = ps.drop i from ?_, List.take_append_drop]
      rw [← List.getElem_cons_drop (show i < ps.length by omega), List.drop_of_length_le (by omega)]
    subst hA
    have hm : A.length + 1 = m := by
      rw [← hl, List.length_append]
      rfl
    have mn := S8.mn
    have cov : ∀ p, p < A.length + 1 → p ∈ plc (A ++ [a]) := fun p hp => S8.cov p (by omega)
    have e0 := beyC_last (n := n) S8.nd sg (by omega) cov
    obtain ⟨na, _, _⟩ := nd_parts S8.nd
    rw [take_mid]
    by_cases ha : a.1 = A.length
    · rw [if_pos ha] at e0
      refine .inl ⟨e0, ?_, hm, sgO_out (by rw [← ha]; exact na)⟩
      rw [rowB_last S8.nd sg (by omega) cov, if_pos ha]
    · rw [if_neg ha] at e0
      obtain ⟨o1, o2, o3⟩ := oppS_ne (sg a (List.mem_append_right _ List.mem_cons_self))
      have pl : plc (A ++ [(a.1, oppS a.2)]) = plc (A ++ [a]) := by
        rw [plc_app, plc_app]
        rfl
      refine .inr ⟨A ++ [(a.1, oppS a.2)], e0, ⟨by rw [← hl]; simp, S8.m2, S8.mn, S8.n12, fun s hs => ?_, by rw [pl]; exact S8.nd, fun p hp => by rw [pl]; exact S8.cov p hp⟩, ?_, fun z => ?_⟩
      · rcases List.mem_append.mp hs with z | z
        · exact S8.at_ s (List.mem_append_left _ z)
        · rw [List.mem_singleton.mp z]
          exact ⟨(S8.at_ a (List.mem_append_right _ List.mem_cons_self)).1, o2⟩
      · have e1 := beyC_last (n := n) (A := A) (a := (a.1, oppS a.2)) (by rw [pl]; exact S8.nd) (fun s hs => by
          rcases List.mem_append.mp hs with z | z
          · exact sg s (List.mem_append_left _ z)
          · rw [List.mem_singleton.mp z]
            exact o2) (by omega) (fun p hp => by rw [pl]; exact cov p hp)
        rw [if_neg ha] at e1
        rw [e1]
        show some (chF n (A ++ [(a.1, oppS (oppS a.2))])) = _
        rw [o3]
      · have hm2 := cov A.length (by omega)
        rw [plc_app] at hm2
        rcases List.mem_append.mp hm2 with y | y
        · rcases sgO_in y (fun s hs => sg s (List.mem_append_left _ hs)) with e | e <;> omega
        · exact ha (List.mem_singleton.mp (show A.length ∈ [a.1] from y)).symm
end K18
namespace K18
open PySem PySem.Spec PyProof.Rows L2 HR SX HZ
/-! ### sizes -/
theorem cnt_map_range {f g : Nat → Nat} {p0 : Nat} : ∀ (n : Nat), p0 < n → (∀ p, p ≠ p0 → f p = g p) → g p0 = 48 → f p0 ≠ 48 → cnt 48 ((List.range n).map f) + 1 = cnt 48 ((List.range n).map g)
  | 0, h, _, _, _ => absurd h (Nat.not_lt_zero _)
  | n + 1, h, k, hg, hf => by
    rw [List.range_succ, List.map_append, List.map_append, cnt_append, cnt_append]
    by_cases e : p0 = n
    · subst e
      have e1 : (List.range p0).map f = (List.range p0).map g := List.map_congr_left fun p hp => k p (Nat.ne_of_lt (List.mem_range.mp hp))
      have e2 : cnt 48 ([p0].map f) = 0 := by
        show cnt 48 [f p0] = 0
        rw [cnt_cons, cnt_nil, if_neg hf]
        rfl
      have e3 : cnt 48 ([p0].map g) = 1 := by
        show cnt 48 [g p0] = 1
        rw [cnt_cons, cnt_nil, if_pos hg]
        rfl
      rw [e1, e2, e3]
      omega
    · have ih := cnt_map_range n (by omega) k hg hf
      have e1 : cnt 48 ([n].map f) = cnt 48 ([n].map g) := by
        show cnt 48 [f n] = cnt 48 [g n]
        rw [k n (fun z => e z.symm)]
      omega
theorem cnt_rep : ∀ n : Nat, cnt 48 (List.replicate n 48) = (n : Int)
  | 0 => cnt_nil 48
  | n + 1 => by
    rw [List.replicate_succ, cnt_cons, cnt_rep n, if_pos rfl]
    omega
theorem cnt_rowF (n : Nat) : ∀ (k : Nat) (l : List (Nat × Nat)), l.length = k → (plc l).Nodup → (∀ s ∈ l, s.1 < n ∧ (s.2 = 43 ∨ s.2 = 45)) → cnt 48 (rowF n l) + (k : Int) = (n : Int)
  | 0, l, h, _, _ => by
    rw [List.eq_nil_of_length_eq_zero h, ← zeros, cnt_rep]
    omega
  | k + 1, l, h, nd, at_ => by
    obtain ⟨A, a, rfl⟩ : ∃ A a, l = A ++ [a] := by
      refine ⟨l.take k, l[k]'(by omega), ?_⟩
      rw [show [l[k]'(by omega)] = l.drop k from ?_, List.take_append_drop]
      rw [← List.getElem_cons_drop (show k < l.length by omega), List.drop_of_length_le (by omega)]
    have hA : A.length = k := by
      rw [List.length_append] at h
      exact Nat.succ.inj h
    obtain ⟨na, _, _⟩ := nd_parts nd
    rw [plc_app] at nd
    have ih := cnt_rowF n k A hA (List.nodup_append.mp nd).1 fun s hs => at_ s (List.mem_append_left _ hs)
    have ha := at_ a (List.mem_append_right _ List.mem_cons_self)
    have st := cnt_map_range (f := sgO (A ++ [a])) (g := sgO A) (p0 := a.1) n ha.1 (fun p hp => by rw [sgO_one A a p na, if_neg hp]) (sgO_out na) (by rw [sgO_one A a a.1 na, if_pos rfl]; rcases ha.2 with z | z <;> rw [z] <;> decide)
    show cnt 48 ((List.range n).map (sgO (A ++ [a]))) + _ = _
    have ih2 : cnt 48 ((List.range n).map (sgO A)) + (k : Int) = (n : Int) := ih
    omega
section
variable {n m : Nat} {ps : List (Nat × Nat)}
theorem Steps.take (S8 : Steps n m ps) (k : Nat) : (plc (ps.take k)).Nodup ∧ ∀ s ∈ ps.take k, s.1 < n ∧ (s.2 = 43 ∨ s.2 = 45) := by
  refine ⟨?_, fun s hs => ⟨Nat.lt_of_lt_of_le (S8.at_ s (List.mem_of_mem_take hs)).1 S8.mn, (S8.at_ s (List.mem_of_mem_take hs)).2⟩⟩
  have h := S8.nd
  rw [← List.take_append_drop k ps, plc_app] at h
  exact (List.nodup_append.mp h).1
theorem row_good (S8 : Steps n m ps) {i : Nat} (hi : i < m) : rowL (rowF n (ps.take (i + 1))) = true := by
  have hl := S8.len
  have n12 := S8.n12
  have mn := S8.mn
  unfold rowL
  rw [decide_eq_true (by rw [rowF_len]; exact n12), Bool.true_and]
  have ha : (rowF n (ps.take (i + 1))).all sgn = true := List.all_eq_true.mpr fun c hc => by
    obtain ⟨p, _, rfl⟩ := List.mem_map.mp hc
    rcases sgO_sgn (fun s hs => ((S8.take (i + 1)).2 s hs).2) p with z | z | z <;> rw [z] <;> rfl
  rw [ha, Bool.true_and]
  have hs : ps[i]? = some (ps[i]'(by omega)) := List.getElem?_eq_getElem _
  generalize ps[i]'(by omega) = s at hs
  have hm : s ∈ ps.take (i + 1) := List.mem_of_getElem? (i := i) (by rw [List.getElem?_take, if_pos (Nat.lt_succ_self i)]; exact hs)
  have hp : s.1 < n := ((S8.take (i + 1)).2 s hm).1
  have mem : sgO (ps.take (i + 1)) s.1 ∈ rowF n (ps.take (i + 1)) := List.mem_of_getElem? (rowF_at _ hp)
  rcases sgO_in (List.mem_map_of_mem hm) (fun t ht => ((S8.take (i + 1)).2 t ht).2) with z | z
  · rw [z] at mem
    rw [decide_eq_true mem]
    rfl
  · rw [z] at mem
    rw [decide_eq_true mem, Bool.or_true]
theorem take_split (S8 : Steps n m ps) {i : Nat} (hi : i < m) : ∃ s, ps[i]? = some s ∧ ps.take (i + 1) = ps.take i ++ [s] ∧ s.1 ∉ plc (ps.take i) ∧ s.1 < n ∧ (s.2 = 43 ∨ s.2 = 45) := by
  have hl := S8.len
  have hs : ps[i]? = some (ps[i]'(by omega)) := List.getElem?_eq_getElem _
  generalize ps[i]'(by omega) = s at hs
  have e := HD.take_snoc hs
  have nd := (S8.take (i + 1)).1
  rw [e] at nd
  have k := S8.at_ s (List.mem_of_getElem? hs)
  exact ⟨s, hs, e, (nd_parts nd).1, Nat.lt_of_lt_of_le k.1 S8.mn, k.2⟩
theorem row_below (S8 : Steps n m ps) {i : Nat} (hi : i + 1 < m) : belowL (rowF n (ps.take (i + 1))) (rowF n (ps.take (i + 1 + 1))) = true := by
  obtain ⟨s, hs, e, na, sn, sg⟩ := take_split S8 hi
  have q : ∀ p, p < n → sgO (ps.take (i + 1 + 1)) p = if p = s.1 then s.2 else sgO (ps.take (i + 1)) p := fun p _ => by rw [e, sgO_one _ _ _ na]
  unfold belowL
  rw [decide_eq_true (by rw [rowF_len, rowF_len]), Bool.true_and]
  have ne : rowF n (ps.take (i + 1)) ≠ rowF n (ps.take (i + 1 + 1)) := fun z => by
    have z1 := congrArg (·[s.1]?) z
    have z2 : some (sgO (ps.take (i + 1)) s.1) = some (sgO (ps.take (i + 1 + 1)) s.1) := by rw [← rowF_at _ sn, ← rowF_at _ sn]; exact z1
    have z3 := Option.some.inj z2
    rw [q _ sn, if_pos rfl, sgO_out na] at z3
    rcases sg with y | y <;> omega
  rw [decide_eq_true ne, Bool.true_and]
  refine List.all_eq_true.mpr fun pr hpr => ?_
  obtain ⟨j, hj⟩ := List.getElem?_of_mem hpr
  obtain ⟨h1, h2⟩ := List.getElem?_zip_eq_some.mp hj
  have hjn : j < n := by
    have := (List.getElem?_eq_some_iff.mp h1).1
    rw [rowF_len] at this
    exact this
  rw [rowF_at _ hjn] at h1 h2
  rw [← Option.some.inj h1, ← Option.some.inj h2, q j hjn]
  by_cases ej : j = s.1
  · rw [if_pos ej, sgO_out (by rw [ej]; exact na)]
    rfl
  · rw [if_neg ej, beq_self_eq_true, Bool.or_true]
theorem rowsV_at (S8 : Steps n m ps) {i : Nat} (hi : i < m) : (rowsV (chF n ps))[i]? = some (.str (S (rowF n (ps.take (i + 1))))) := by
  unfold rowsV
  rw [List.getElem?_map, chR_at n ps [] i (by rw [S8.len]; exact hi)]
  rfl
theorem full_chF (S8 : Steps n m ps) : fullV (rowsV (chF n ps)) = true := by
  have hl := S8.len
  have m2 := S8.m2
  have len2 : (rowsV (chF n ps)).length = m := by unfold rowsV; rw [List.length_map, chR_len, hl]
  unfold fullV
  have e0 := rowsV_at S8 (show 0 < m by omega)
  have c1 : chainV (rowsV (chF n ps)) = true := by
    have ht : chainT (rowsV (chF n ps)) = true := (chainT_iff _).mpr fun i x y hx hy => by
      have hi : i + 1 < m := by
        have := (List.getElem?_eq_some_iff.mp hy).1
        rw [len2] at this
        exact this
      rw [rowsV_at S8 (show i < m by omega)] at hx
      rw [rowsV_at S8 hi] at hy
      rw [← Option.some.inj hx, ← Option.some.inj hy]
      show (rowL (S (rowF n (ps.take (i + 1 + 1)))).cps.toList && belowL (strL (.str (S (rowF n (ps.take (i + 1)))))) (strL (.str (S (rowF n (ps.take (i + 1 + 1))))))) = true
      rw [strL_S, strL_S, row_below S8 hi, Bool.and_true]
      rw [show (S (rowF n (ps.take (i + 1 + 1)))).cps.toList = rowF n (ps.take (i + 1 + 1)) by simp [S]]
      exact row_good S8 hi
    cases hx : rowsV (chF n ps) with
    | nil =>
      rw [hx] at len2
      exact absurd len2.symm (by show ¬ m = 0; omega)
    | cons a r =>
      rw [hx] at ht e0
      show (rowV a && chainT (a :: r)) = true
      rw [ht, Bool.and_true, Option.some.inj e0]
      show rowL (S (rowF n (ps.take (0 + 1)))).cps.toList = true
      rw [show (S (rowF n (ps.take (0 + 1)))).cps.toList = rowF n (ps.take (0 + 1)) by simp [S]]
      exact row_good S8 (by omega)
  have c2 : sizesV (rowsV (chF n ps)) = upTo (rowsV (chF n ps)).length := by
    refine List.ext_getElem? fun i => ?_
    by_cases hi : i < m
    · unfold sizesV upTo
      rw [List.getElem?_map, rowsV_at S8 hi, List.getElem?_map, List.getElem?_range (by rw [len2]; exact hi)]
      show some (sizeL (strL (.str (S (rowF n (ps.take (i + 1))))))) = some (1 + (i : Int))
      rw [strL_S]
      unfold sizeL
      have h := cnt_rowF n (i + 1) (ps.take (i + 1)) (by rw [List.length_take]; omega) (S8.take _).1 (S8.take _).2
      rw [rowF_len]
      congr 1
      omega
    · rw [List.getElem?_eq_none (by unfold sizesV; rw [List.length_map, len2]; omega), List.getElem?_eq_none (by unfold upTo; rw [List.length_map, List.length_range, len2]; omega)]
  have c3 : 48 ∉ (strL ((rowsV (chF n ps)).getLastD .non)).take (rowsV (chF n ps)).length := by
    have el : (rowsV (chF n ps)).getLastD .non = .str (S (rowF n ps)) := by
      rw [List.getLastD_eq_getLast?, List.getLast?_eq_getElem?, len2, rowsV_at S8 (show m - 1 < m by omega), show m - 1 + 1 = m by omega, List.take_of_length_le (by omega)]
      rfl
    rw [el, strL_S, len2]
    intro hm
    obtain ⟨j, hj⟩ := List.getElem?_of_mem hm
    rw [List.getElem?_take] at hj
    by_cases hjm : j < m
    · have mn := S8.mn
      rw [if_pos hjm, rowF_at _ (by omega)] at hj
      rcases sgO_in (S8.cov j hjm) (fun s hs => (S8.at_ s hs).2) with z | z
      · rw [z] at hj
        cases hj
      · rw [z] at hj
        cases hj
    · rw [if_neg hjm] at hj
      cases hj
  rw [c1, decide_eq_true c2, decide_eq_false c3]
  rfl
end
end K18
namespace K18
open PySem PySem.Spec PyProof.Rows L2 HR SX HZ
/-! ### the rows that could stand there -/
def latL (c : List (List Nat)) (i : Nat) (row : List Nat) : List Nat := if i + 1 < c.length then c.getD (i + 1) [] else row.take (c.length - 1) ++ [(c.getD (c.length - 1) []).getD (c.length - 1) 0] ++ row.drop c.length
def leqL (a b : List Nat) : Bool := (a.zip b).all fun p => p.1 == 48 || p.1 == p.2
def candB (c : List (List Nat)) (i : Nat) (row : List Nat) : Bool := decide (row ≠ c.getD i []) && (leqL row (latL c i row) && (decide (i + 1 < c.length) || decide (row = latL c i row)))
def candsOf (c : List (List Nat)) (i p : Nat) : List (List Nat) := ([43, 45].map fun s => withS (lowL c i) p s).filter (candB c i)
def freeL (c : List (List Nat)) (i : Nat) : List Nat := (List.range c.length).filter fun p => (lowL c i).getD p 0 == 48
def othersL (c : List (List Nat)) (i : Nat) : List (List Nat) := (freeL c i).flatMap (candsOf c i)
theorem flat_none {α β : Type} {f : α → List β} : ∀ {l : List α}, (∀ p ∈ l, f p = []) → l.flatMap f = []
  | [], _ => rfl
  | a :: r, h => by
    rw [List.flatMap_cons, h a List.mem_cons_self, flat_none fun p hp => h p (List.mem_cons_of_mem _ hp)]
    rfl
theorem flat_one {α β : Type} {f : α → List β} {p0 : α} : ∀ {l : List α}, l.Nodup → p0 ∈ l → (∀ p ∈ l, p ≠ p0 → f p = []) → l.flatMap f = f p0
  | [], _, h, _ => absurd h List.not_mem_nil
  | a :: r, nd, hm, h => by
    obtain ⟨n1, n2⟩ := List.nodup_cons.mp nd
    rw [List.flatMap_cons]
    rcases List.mem_cons.mp hm with e | e
    · subst e
      rw [flat_none fun p hp => h p (List.mem_cons_of_mem _ hp) fun z => n1 (z ▸ hp), List.append_nil]
    · rw [h a List.mem_cons_self fun z => n1 (z ▸ e), flat_one n2 e fun p hp => h p (List.mem_cons_of_mem _ hp)]
      rfl
theorem leq_rows {n : Nat} {x y : List (Nat × Nat)} : leqL (rowF n x) (rowF n y) = true ↔ ∀ p, p < n → sgO x p = 48 ∨ sgO x p = sgO y p := by
  unfold leqL
  rw [List.all_eq_true]
  constructor
  · intro h p hp
    have hz : ((rowF n x).zip (rowF n y))[p]? = some (sgO x p, sgO y p) := List.getElem?_zip_eq_some.mpr ⟨rowF_at x hp, rowF_at y hp⟩
    have := h _ (List.mem_of_getElem? hz)
    simpa using this
  · intro h pr hpr
    obtain ⟨j, hj⟩ := List.getElem?_of_mem hpr
    obtain ⟨h1, h2⟩ := List.getElem?_zip_eq_some.mp hj
    have hjn : j < n := by
      have := (List.getElem?_eq_some_iff.mp h1).1
      rw [rowF_len] at this
      exact this
    rw [rowF_at _ hjn] at h1 h2
    rw [← Option.some.inj h1, ← Option.some.inj h2]
    simpa using h j hjn
theorem row_inj {n : Nat} {x y : List (Nat × Nat)} (h : rowF n x = rowF n y) (p : Nat) (hp : p < n) : sgO x p = sgO y p := by
  have z := congrArg (·[p]?) h
  have z2 : some (sgO x p) = some (sgO y p) := by rw [← rowF_at x hp, ← rowF_at y hp]; exact z
  exact Option.some.inj z2
theorem cand_mid {n p s : Nat} {A C : List (Nat × Nat)} {a b : Nat × Nat} (nd : (plc (A ++ a :: b :: C)).Nodup) (sg : ∀ s ∈ A ++ a :: b :: C, s.2 = 43 ∨ s.2 = 45) (bn : b.1 < n) (hp : p ∉ plc A) (pn : p < n) (hs : s = 43 ∨ s = 45) :
    candB (chF n (A ++ a :: b :: C)) A.length (rowF n (A ++ [(p, s)])) = decide ((p, s) = b) := by
  have hl : A.length < (A ++ a :: b :: C).length := by simp
  have hl2 : A.length + 1 < (A ++ a :: b :: C).length := by simp
  obtain ⟨na, _, nb⟩ := nd_parts nd
  obtain ⟨nbA, nba⟩ := nb b List.mem_cons_self
  have s48 : s ≠ 48 := by rcases hs with z | z <;> rw [z] <;> decide
  have sb := sg b (List.mem_append_right _ (List.mem_cons_of_mem _ List.mem_cons_self))
  have el : latL (chF n (A ++ a :: b :: C)) A.length (rowF n (A ++ [(p, s)])) = rowF n (A ++ [a, b]) := by
    unfold latL
    rw [chR_len, if_pos hl2, chF_getD hl2, take_mid2]
  have e2 : ∀ q, sgO (A ++ [a, b]) q = if q = b.1 then b.2 else if q = a.1 then a.2 else sgO A q := fun q => by
    rw [show A ++ [a, b] = (A ++ [a]) ++ [b] by simp, sgO_one (A ++ [a]) b q, sgO_one A a q na]
    rw [plc_app]
    intro hm
    rcases List.mem_append.mp hm with z | z
    · exact nbA z
    · exact nba (List.mem_singleton.mp (show b.1 ∈ [a.1] from z))
  have e1 : ∀ q, sgO (A ++ [(p, s)]) q = if q = p then s else sgO A q := fun q => sgO_one A (p, s) q hp
  unfold candB
  rw [el, chR_len, chF_getD hl, take_mid1, decide_eq_true hl2, Bool.true_or, Bool.and_true]
  by_cases hb : (p, s) = b
  · subst hb
    rw [decide_eq_true rfl]
    have c1 : rowF n (A ++ [(p, s)]) ≠ rowF n (A ++ [a]) := fun z => by
      have := row_inj z p pn
      rw [e1, if_pos rfl, sgO_one A a p na, if_neg nba, sgO_out hp] at this
      exact s48 this
    have c2 : leqL (rowF n (A ++ [(p, s)])) (rowF n (A ++ [a, (p, s)])) = true := leq_rows.mpr fun q hq => by
      rw [e1, e2]
      by_cases eq : q = p
      · rw [if_pos eq, if_pos eq]
        exact .inr rfl
      · rw [if_neg eq, if_neg eq]
        by_cases ea : q = a.1
        · rw [if_pos ea, ea, sgO_out na]
          exact .inl rfl
        · rw [if_neg ea]
          exact .inr rfl
    rw [decide_eq_true c1, c2]
    rfl
  · rw [decide_eq_false hb]
    by_cases hl : leqL (rowF n (A ++ [(p, s)])) (rowF n (A ++ [a, b])) = true
    · have h0 := leq_rows.mp hl p pn
      rw [e1, e2, if_pos rfl] at h0
      rcases h0 with h0 | h0
      · exact absurd h0 s48
      by_cases eb : p = b.1
      · rw [if_pos eb] at h0
        exact absurd (Prod.ext eb h0) hb
      · rw [if_neg eb] at h0
        by_cases ea : p = a.1
        · rw [if_pos ea] at h0
          have : (p, s) = a := Prod.ext ea h0
          rw [this, decide_eq_false (fun z => z rfl)]
          rfl
        · rw [if_neg ea, sgO_out hp] at h0
          exact absurd h0 s48
    · rw [Bool.eq_false_iff.mpr hl, Bool.and_false]
theorem lat_last {n m : Nat} {c : List (List Nat)} {x : List (Nat × Nat)} {h : Nat} (hm : m < n) : (rowF n x).take m ++ [h] ++ (rowF n x).drop (m + 1) = withS (rowF n x) m h := rfl
theorem with_at {l : List Nat} {m h p : Nat} (hm : m < l.length) (hp : p < l.length) : (withS l m h)[p]? = some (if p = m then h else l.getD p 0) := by
  have hg : l[p]? = some (l.getD p 0) := by
    rw [List.getD_eq_getElem?_getD, List.getElem?_eq_getElem hp]
    rfl
  unfold withS
  by_cases e : p = m
  · rw [if_pos e, e, List.getElem?_append_left (by rw [List.length_append, List.length_take]; show m < min m l.length + 1; omega), List.getElem?_append_right (by rw [List.length_take]; omega), List.length_take, show m - min m l.length = 0 by omega]
    rfl
  · rw [if_neg e]
    by_cases lt : p < m
    · rw [List.getElem?_append_left (by rw [List.length_append, List.length_take]; show p < min m l.length + 1; omega), List.getElem?_append_left (by rw [List.length_take]; omega), List.getElem?_take, if_pos lt, hg]
    · rw [List.getElem?_append_right (by rw [List.length_append, List.length_take]; show min m l.length + 1 ≤ p; omega), List.getElem?_drop, List.length_append, List.length_take]
      show l[m + 1 + (p - (min m l.length + 1))]? = _
      rw [show m + 1 + (p - (min m l.length + 1)) = p by omega, hg]
theorem cand_last {n s : Nat} {A : List (Nat × Nat)} {a : Nat × Nat} (nd : (plc (A ++ [a])).Nodup) (sg : ∀ s ∈ A ++ [a], s.2 = 43 ∨ s.2 = 45) (hn : A.length < n) (an : a.1 < n) (cov : ∀ p, p < A.length + 1 → p ∈ plc (A ++ [a])) (hs : s = 43 ∨ s = 45) :
    candB (chF n (A ++ [a])) A.length (rowF n (A ++ [(a.1, s)])) = (!decide (a.1 = A.length) && decide (s = oppS a.2)) := by
  have hl : A.length < (A ++ [a]).length := by simp
  have hl2 : ¬ A.length + 1 < (A ++ [a]).length := by simp
  have le : (A ++ [a]).length = A.length + 1 := by simp
  obtain ⟨na, _, _⟩ := nd_parts nd
  have sa := sg a (List.mem_append_right _ List.mem_cons_self)
  have e1 : ∀ t q, sgO (A ++ [(a.1, t)]) q = if q = a.1 then t else sgO A q := fun t q => sgO_one A (a.1, t) q na
  have el : latL (chF n (A ++ [a])) A.length (rowF n (A ++ [(a.1, s)])) = withS (rowF n (A ++ [(a.1, s)])) A.length (sgO (A ++ [a]) A.length) := by
    unfold latL
    rw [chR_len, if_neg hl2, le, Nat.add_sub_cancel, chF_getD hl, take_mid1, rowF_getD _ hn]
    rfl
  have half := e1 a.2 A.length
  have hrow : ∀ t, rowF n (A ++ [(a.1, t)]) = rowF n (A ++ [a]) ↔ t = a.2 := fun t => by
    constructor
    · intro z
      have := row_inj z a.1 an
      rw [e1, if_pos rfl, e1 a.2, if_pos rfl] at this
      exact this
    · rintro rfl
      rfl
  unfold candB
  rw [el, chR_len, decide_eq_false hl2, Bool.false_or, chF_getD hl, take_mid1]
  have same : rowF n (A ++ [(a.1, s)]) = withS (rowF n (A ++ [(a.1, s)])) A.length (sgO (A ++ [a]) A.length) ↔ sgO (A ++ [(a.1, s)]) A.length = sgO (A ++ [a]) A.length := by
    constructor
    · intro z
      have z1 := congrArg (·[A.length]?) z
      have z2 : some (sgO (A ++ [(a.1, s)]) A.length) = some (sgO (A ++ [a]) A.length) := by
        have w := with_at (l := rowF n (A ++ [(a.1, s)])) (m := A.length) (h := sgO (A ++ [a]) A.length) (p := A.length) (by rw [rowF_len]; exact hn) (by rw [rowF_len]; exact hn)
        rw [if_pos rfl] at w
        rw [← rowF_at _ hn, ← w]
        exact z1
      exact Option.some.inj z2
    · intro z
      refine List.ext_getElem? fun p => ?_
      by_cases hp : p < n
      · rw [with_at (by rw [rowF_len]; exact hn) (by rw [rowF_len]; exact hp), rowF_at _ hp, rowF_getD _ hp]
        by_cases e : p = A.length
        · rw [if_pos e, e, z]
        · rw [if_neg e]
      · rw [List.getElem?_eq_none (by rw [rowF_len]; omega), List.getElem?_eq_none (by rw [withS_len (by rw [rowF_len]; exact hn), rowF_len]; omega)]
  have leq : rowF n (A ++ [(a.1, s)]) = withS (rowF n (A ++ [(a.1, s)])) A.length (sgO (A ++ [a]) A.length) → leqL (rowF n (A ++ [(a.1, s)])) (withS (rowF n (A ++ [(a.1, s)])) A.length (sgO (A ++ [a]) A.length)) = true := fun z => by
    rw [← z]
    exact leq_rows.mpr fun p _ => .inr rfl
  by_cases ha : a.1 = A.length
  · rw [decide_eq_true ha]
    show _ = false
    by_cases hw : rowF n (A ++ [(a.1, s)]) = withS (rowF n (A ++ [(a.1, s)])) A.length (sgO (A ++ [a]) A.length)
    · have z := same.mp hw
      rw [e1, half, if_pos ha.symm, if_pos ha.symm] at z
      rw [decide_eq_false (fun y => y ((hrow s).mpr z)), Bool.false_and]
    · rw [decide_eq_false hw, Bool.and_false, Bool.and_false]
  · rw [decide_eq_false ha]
    have z : sgO (A ++ [(a.1, s)]) A.length = sgO (A ++ [a]) A.length := by rw [e1, half, if_neg (fun y => ha y.symm), if_neg (fun y => ha y.symm)]
    have hw := same.mpr z
    rw [leq hw, decide_eq_true hw]
    show (decide (rowF n (A ++ [(a.1, s)]) ≠ rowF n (A ++ [a])) && true) = decide (s = oppS a.2)
    rw [Bool.and_true]
    by_cases h : s = oppS a.2
    · rw [decide_eq_true h, decide_eq_true]
      intro y
      exact (oppS_ne sa).1 (h.symm.trans ((hrow s).mp y))
    · rw [decide_eq_false h, decide_eq_false]
      intro y
      apply h
      have : s ≠ a.2 := fun w => y ((hrow s).mpr w)
      rcases hs with e | e <;> rcases sa with e2 | e2 <;> rw [e2] at this ⊢ <;> rw [e] at this ⊢ <;> first | exact absurd rfl this | rfl
theorem free_mem {n m i p : Nat} {ps : List (Nat × Nat)} (S8 : Steps n m ps) (hi : i < m) : p ∈ freeL (chF n ps) i ↔ p < m ∧ p ∉ plc (ps.take i) := by
  have hl := S8.len
  have mn := S8.mn
  unfold freeL
  rw [List.mem_filter, List.mem_range, chR_len, hl]
  constructor
  · rintro ⟨h1, h2⟩
    refine ⟨h1, fun hm => ?_⟩
    have h3 : (lowL (chF n ps) i).getD p 0 = 48 := by simpa using h2
    rw [chF_low (by omega), rowF_getD _ (by omega)] at h3
    rcases sgO_in hm (fun s hs => ((S8.take i).2 s hs).2) with z | z <;> omega
  · rintro ⟨h1, h2⟩
    refine ⟨h1, ?_⟩
    rw [chF_low (by omega), rowF_getD _ (by omega), sgO_out h2]
    rfl
theorem free_nd {n i : Nat} {ps : List (Nat × Nat)} : (freeL (chF n ps) i).Nodup := List.Pairwise.filter _ List.nodup_range
theorem others_eq {n m i : Nat} {ps : List (Nat × Nat)} (S8 : Steps n m ps) (hi : i < m) : othersL (chF n ps) i = (rowB (chF n ps) i).toList := by
  have hl := S8.len
  have mn := S8.mn
  have sg : ∀ s ∈ ps, s.2 = 43 ∨ s.2 = 45 := fun s hs => (S8.at_ s hs).2
  have fm := fun p => free_mem (p := p) S8 hi
  unfold othersL
  have cnd : ∀ p, p < n → p ∉ plc (ps.take i) → candsOf (chF n ps) i p = ([43, 45].map fun s => rowF n (ps.take i ++ [(p, s)])).filter (candB (chF n ps) i) := fun p hp hq => by
    unfold candsOf
    rw [chF_low (by omega)]
    congr 1
    refine List.map_congr_left fun s _ => ?_
    exact rowF_with (s := (p, s)) hq hp
  by_cases h : i + 1 < m
  · obtain ⟨A, a, b, C, rfl, hA⟩ : ∃ A a b C, ps = A ++ a :: b :: C ∧ A.length = i := by
      refine ⟨ps.take i, ps[i], ps[i + 1], ps.drop (i + 2), ?_, by rw [List.length_take]; omega⟩
      rw [List.getElem_cons_drop, List.getElem_cons_drop, List.take_append_drop]
    subst hA
    rw [take_mid] at fm cnd
    have bm := (S8.at_ b (List.mem_append_right _ (List.mem_cons_of_mem _ List.mem_cons_self))).1
    obtain ⟨_, _, nb⟩ := nd_parts S8.nd
    have nbA := (nb b List.mem_cons_self).1
    have each : ∀ p, p < m → p ∉ plc A → candsOf (chF n (A ++ a :: b :: C)) A.length p = ([43, 45].filter fun s => decide ((p, s) = b)).map fun s => rowF n (A ++ [(p, s)]) := fun p hp hq => by
      rw [cnd p (by omega) hq, List.filter_map]
      congr 1
      refine List.filter_congr fun s hs => ?_
      exact cand_mid S8.nd sg (by omega) hq (by omega) (by simpa using hs)
    rw [flat_one (p0 := b.1) free_nd ((fm b.1).mpr ⟨bm, nbA⟩) fun p hp hpb => ?_, each b.1 bm nbA, rowB_mid S8.nd sg]
    · obtain ⟨b1, b2⟩ := b
      rcases sg (b1, b2) (List.mem_append_right _ (List.mem_cons_of_mem _ List.mem_cons_self)) with e | e
      · have e' : b2 = 43 := e
        subst e'
        simp
      · have e' : b2 = 45 := e
        subst e'
        simp
    · obtain ⟨h1, h2⟩ := (fm p).mp hp
      rw [each p h1 h2, List.filter_eq_nil_iff.mpr]
      · rfl
      · intro s _ hc
        have := of_decide_eq_true hc
        exact hpb (by rw [← this])
  · obtain ⟨A, a, rfl, hA⟩ : ∃ A a, ps = A ++ [a] ∧ A.length = i := by
      refine ⟨ps.take i, ps[i], ?_, by rw [List.length_take]; omega⟩
      rw [show [ps[i]] = ps.drop i from ?_, List.take_append_drop]
      rw [← List.getElem_cons_drop (show i < ps.length by omega), List.drop_of_length_le (by omega)]
    subst hA
    have hm : A.length + 1 = m := by
      rw [← hl, List.length_append]
      rfl
    have cov : ∀ p, p < A.length + 1 → p ∈ plc (A ++ [a]) := fun p hp => S8.cov p (by omega)
    rw [take_mid] at fm cnd
    have am := (S8.at_ a (List.mem_append_right _ List.mem_cons_self)).1
    obtain ⟨na, _, _⟩ := nd_parts S8.nd
    rw [flat_one (p0 := a.1) free_nd ((fm a.1).mpr ⟨am, na⟩) fun p hp hpb => ?_, cnd a.1 (by omega) na, rowB_last S8.nd sg (by omega) cov, List.filter_map]
    · have e0 : ([43, 45].filter (candB (chF n (A ++ [a])) A.length ∘ fun s => rowF n (A ++ [(a.1, s)]))) = [43, 45].filter fun s => !decide (a.1 = A.length) && decide (s = oppS a.2) := List.filter_congr fun s hs => cand_last S8.nd sg (by omega) (by omega) cov (by simpa using hs)
      rw [e0]
      by_cases ha : a.1 = A.length
      · rw [if_pos ha, decide_eq_true ha]
        rfl
      · rw [if_neg ha, decide_eq_false ha]
        rcases sg a (List.mem_append_right _ List.mem_cons_self) with e | e
        · rw [e]
          rfl
        · rw [e]
          rfl
    · obtain ⟨h1, h2⟩ := (fm p).mp hp
      have := cov p (by omega)
      rw [plc_app] at this
      rcases List.mem_append.mp this with z | z
      · exact absurd z h2
      · exact absurd (List.mem_singleton.mp (show p ∈ [a.1] from z)) hpb
end K18
namespace K18
open PySem PySem.Spec PyProof.Rows L2 HR SX HZ
theorem ix_of {ls : List Int} {j : Int} (h0 : 0 ≤ j) (h1 : j < (ls.length : Int)) : ∃ (k : Nat) (x : Int), j = (k : Int) ∧ k < ls.length ∧ ls[k]? = some x ∧ atI (ls.map V.int) j = some (.int x) ∧ ixN (ls.map V.int).length j = some k ∧ x ∈ ls := by
  have hk : j.toNat < ls.length := by omega
  refine ⟨j.toNat, ls[j.toNat], by omega, hk, List.getElem?_eq_getElem hk, ?_, ?_, List.getElem_mem hk⟩
  · have e := atI_nat (xs := ls.map V.int) (j := j.toNat) (v := .int ls[j.toNat]) (by rw [List.getElem?_map, List.getElem?_eq_getElem hk]; rfl)
    rw [Int.toNat_of_nonneg h0] at e
    exact e
  · have e := Evl.ixN_nat (n := (ls.map V.int).length) (j := j.toNat) (by rw [List.length_map]; exact hk)
    rw [Int.toNat_of_nonneg h0] at e
    exact e
theorem erase_map : ∀ (ls : List Int) (k : Nat), (ls.map V.int).eraseIdx k = (ls.eraseIdx k).map V.int
  | [], k => by cases k <;> rfl
  | x :: r, 0 => rfl
  | x :: r, k + 1 => by
    show V.int x :: (r.map V.int).eraseIdx k = V.int x :: (r.eraseIdx k).map V.int
    rw [erase_map r k]
theorem neqv_nil (ns : List Int) : (!PyData.eqv (.list (ns.map PyData.int)) (.list [])) = decide (ns ≠ []) := by
  rw [HD.eqv_nil]
  by_cases h : ns = [] <;> simp [h]
theorem erase_mem {ls : List Int} {k : Nat} {x y : Int} (nd : ls.Nodup) (h : ls[k]? = some x) : y ∈ ls.eraseIdx k ↔ y ∈ ls ∧ y ≠ x := by
  rw [List.mem_eraseIdx_iff_getElem?]
  constructor
  · rintro ⟨i, hi, e⟩
    refine ⟨List.mem_of_getElem? e, fun z => hi ?_⟩
    rw [z] at e
    exact (List.getElem?_inj (List.getElem?_eq_some_iff.mp e).1 nd).mp (e.trans h.symm)
  · rintro ⟨hm, ne⟩
    obtain ⟨i, e⟩ := List.getElem?_of_mem hm
    refine ⟨i, fun z => ne ?_, e⟩
    rw [z, h] at e
    exact (Option.some.inj e).symm
/-- all that was stays but at g; the pen is g -/
structure Draw (n m : Nat) (ps : List (Nat × Nat)) (ls : List Int) : Prop where
  sum : ps.length + ls.length = m
  lnd : ls.Nodup
  lin : ∀ x ∈ ls, ∃ p : Nat, x = (p : Int) ∧ p < m ∧ p ∉ plc ps
  nd : (plc ps).Nodup
  at_ : ∀ s ∈ ps, s.1 < m ∧ (s.2 = 43 ∨ s.2 = 45)
  cov : ∀ p, p < m → (p : Int) ∈ ls ∨ p ∈ plc ps
theorem Draw.next {n m : Nat} {ps : List (Nat × Nat)} {ls : List Int} {k p s : Nat} (D : Draw n m ps ls) (h : ls[k]? = some (p : Int)) (hs : s = 43 ∨ s = 45) : Draw n m (ps ++ [(p, s)]) (ls.eraseIdx k) := by
  have hk := (List.getElem?_eq_some_iff.mp h).1
  have hm := List.mem_of_getElem? h
  obtain ⟨p', e, pm, pn⟩ := D.lin _ hm
  have ep : p = p' := by omega
  subst ep
  refine ⟨?_, D.lnd.sublist (List.eraseIdx_sublist _ _), fun x hx => ?_, ?_, fun t ht => ?_, fun q hq => ?_⟩
  · have := D.sum
    rw [List.length_append, List.length_eraseIdx_of_lt hk]
    show ps.length + 1 + (ls.length - 1) = m
    omega
  · obtain ⟨h1, h2⟩ := (erase_mem D.lnd h).mp hx
    obtain ⟨q, rfl, qm, qn⟩ := D.lin _ h1
    refine ⟨q, rfl, qm, fun z => ?_⟩
    rw [plc_app] at z
    rcases List.mem_append.mp z with z | z
    · exact qn z
    · exact h2 (congrArg Int.ofNat (List.mem_singleton.mp (show q ∈ [p] from z)))
  · rw [plc_app]
    exact List.nodup_append.mpr ⟨D.nd, (List.nodup_cons.mpr ⟨List.not_mem_nil, List.nodup_nil⟩ : [p].Nodup), fun a ha b hb e => pn (by
      have : b = p := List.mem_singleton.mp (show b ∈ [p] from hb)
      rw [← this, ← e]
      exact ha)⟩
  · rcases List.mem_append.mp ht with z | z
    · exact D.at_ t z
    · rw [List.mem_singleton.mp z]
      exact ⟨pm, hs⟩
  · rw [plc_app]
    rcases D.cov q hq with z | z
    · by_cases e : (q : Int) = (p : Int)
      · exact .inr (List.mem_append_right _ (show q ∈ [p] from List.mem_singleton.mpr (by omega)))
      · exact .inl ((erase_mem D.lnd h).mpr ⟨z, e⟩)
    · exact .inr (List.mem_append_left _ z)
theorem Draw.fin {n m : Nat} {ps : List (Nat × Nat)} (D : Draw n m ps []) (m2 : 2 ≤ m) (mn : m ≤ n) (n12 : n ≤ 12) : Steps n m ps :=
  ⟨D.sum, m2, mn, n12, D.at_, D.nd, fun p hp => (D.cov p hp).elim (fun z => absurd z List.not_mem_nil) id⟩
theorem Draw.start {n m : Nat} : Draw n m [] ((List.range m).map fun p : Nat => (p : Int)) := by
  refine ⟨by rw [List.length_map, List.length_range]; exact Nat.zero_add m, ?_, fun x hx => ?_, List.nodup_nil, fun s hs => absurd hs List.not_mem_nil, fun p hp => .inl (List.mem_map.mpr ⟨p, List.mem_range.mpr hp, rfl⟩)⟩
  · refine List.Pairwise.map _ (fun a b h z => h ?_) List.nodup_range
    have : (a : Int) = (b : Int) := z
    omega
  · obtain ⟨p, hp, rfl⟩ := List.mem_map.mp hx
    exact ⟨p, rfl, List.mem_range.mp hp, List.not_mem_nil⟩
def spDFull : Sp := fun vs H Q _ => ∃ (g c : Addr) (ns : List Int) (a r : Int) (n m : Nat), vs = [.ref g, .int (n : Nat), .int (m : Nat)] ∧ HD.Gau H g c ns a r ∧ a < 900000 ∧ 2 ≤ m ∧ m ≤ n ∧ n ≤ 12 ∧
  ∀ (l : Addr) (ps : List (Nat × Nat)) (a' r' : Int) (H' : Hp), Steps n m ps → a' ≤ a + 2 * m → HD.Gau H' g c ns a' r' → HG.Kp g H H' → H l = none → H' l = some (.lst (rowsV (chF n ps))) → Q (.ref l) H'
theorem chF_snoc (n : Nat) (ps : List (Nat × Nat)) (s : Nat × Nat) : rowsV (chF n (ps ++ [s])) = rowsV (chF n ps) ++ [.str (S (rowF n (ps ++ [s])))] := by
  unfold rowsV
  rw [show chF n (ps ++ [s]) = chF n ps ++ [rowF n (ps ++ [s])] from chR_app n ps [s] [], List.map_append]
  rfl
section
variable {P : Program} {w : World} {K : PySem.W.Frag} {mg : Str → Option Value} {base : Heap}
theorem ok__law_full (T : HG.Tp K mg "_law_full" s__law_full ["pen", "places", "many"]) (o__law_draw : HG.Df P w K mg base CX0 1 "_law_draw" ["pen", "many"] HD.spDraw) (o__law_one_of : HG.Df P w K mg base CX0 2 "_law_one_of" ["pen", "some"] (HD.spOne K)) (m_range : mg "range" = none) (m_list : mg "list" = none) (m_len : mg "len" = none) :
    FnOk P w K mg base CX0 3 T.f T.fd ["pen", "places", "many"] spDFull := by
  refine T.F.ok sc__law_full (fun vs H Q E h => ?_) (fun cdv A outer s H vs Q E hr h => ?_)
  · obtain ⟨g, c, ns, a, r, n, m, rfl, _⟩ := h
    rfl
  · obtain ⟨g, c, ns, a, r, n, m, rfl, G, a9, m2, mn, n12, q⟩ := h
    refine ⟨_, (pss_cons (ps_par3 (i := 3) (j := 4) (l := 5) (by rfl) sc__law_full.nd rfl rfl rfl (by decide) (by decide) (by decide) rfl rfl rfl (pa_cons (pe_listRg rfl (by rfl) m_list (prg_1 (by rfl) m_range (pv 2))) (pa_cons (pe_op op_mul_str pe_str (pv 1)) (pa_cons (pe_lst pa_nil) pa_nil))) (by rfl))
    (pss_cons (ps_while PassesOwn.never (pt_cmpR (op_neD hr.units) (pv 3) (pe_lst pa_nil) (nomark _))
      (pss_cons (ps_set (i := 6) sc__law_full.nd rfl (.inl rfl) (pe_bm PySem.F.plainAttrs_list PySem.F.slot_list_pop PySem.F.type_list_pop mt_popAt (pv 3) (pa_cons (HG.pe_c o__law_draw hr (pa_cons (pv 0) (pa_cons (pe_callB call_len_seq (by rfl) m_len PySem.boot_len (pa_cons (pv 3) pa_nil)) pa_nil))) pa_nil)))
      (pss_cons (ps_set (i := 4) sc__law_full.nd rfl (.inl rfl) (pe_op op_add_str (pe_op op_add_str (pe_slice C8.sl_txt (pv 4) po_none (po_some (pv 6))) (HG.pe_c o__law_one_of hr (pa_cons (pv 0) (pa_cons (pe_lst (pa_cons pe_str (pa_cons pe_str pa_nil))) pa_nil)))) (pe_slice C8.sl_txt (pv 4) (po_some (pe_op op_add (pv 6) pe_int)) po_none)))
      (pss_one (ps_expr (pe_bm PySem.F.plainAttrs_list PySem.F.slot_list_append PySem.F.type_list_append mt_append (pv 5) (pa_cons (pv 4) pa_nil)))))))
    (pss_one (ps_ret (pv 5))))), ?_⟩
    have sz := sizeLine_eq
    -- left, row, found
    refine ⟨_, rfl, _, rfl, RgOk.of_le (Int.le_refl 0) (by omega) (by decide) (by omega), fun L nL => ?_⟩
    refine ⟨_, rfl, _, _, rfl, rfl, mul_ok (by omega), ?_⟩
    rw [show Txt.mul "0" (n : Int) = S (List.replicate n 48) from mul_S n, zeros]
    refine ⟨Nat.zero_le _, fun F nF => ?_⟩
    refine ⟨_, _, _, rfl, ?_⟩
    have hrg : rgV 0 (m : Int) = (((List.range m).map fun p : Nat => (p : Int)).map V.int) := by
      unfold rgV
      rw [show ((m : Int) - 0).toNat = m by omega, List.map_map]
      refine List.map_congr_left fun p _ => ?_
      show V.int (0 + (p : Int)) = V.int (p : Int)
      rw [Int.zero_add]
    rw [hrg] at nF ⊢
    have GL : HD.Gau (upd (upd H L (.lst (((List.range m).map fun p : Nat => (p : Int)).map V.int))) F (.lst [])) g c ns a r := (G.new nL).new nF
    have kp0 : HG.Kp g H (upd (upd H L (.lst (((List.range m).map fun p : Nat => (p : Int)).map V.int))) F (.lst [])) := (HG.Kp.new nL).trans (HG.Kp.new nF)
    have LF : L ≠ F := fun z => by rw [← z, upd_same] at nF; cases nF
    have nFH : H F = none := by rw [upd_ne LF.symm] at nF; exact nF
    have Lg : L ≠ g := (ne_of_none G.g nL).symm
    have Fg : F ≠ g := (ne_of_none G.g nFH).symm
    have hL0 : (upd (upd H L (.lst (((List.range m).map fun p : Nat => (p : Int)).map V.int))) F (.lst [])) L = some (.lst (((List.range m).map fun p : Nat => (p : Int)).map V.int)) := by rw [upd_ne LF, upd_same]
    refine ⟨fun k σ H2 => ∃ (ps : List (Nat × Nat)) (ls : List Int) (y6 : Option V) (a2 r2 : Int), σ = [some (.ref g), some (.int (n : Nat)), some (.int (m : Nat)), some (.ref L), some (.str (S (rowF n ps))), some (.ref F), y6] ∧ HD.Gau H2 g c ns a2 r2 ∧ HG.Kp g H H2 ∧
        H2 L = some (.lst (ls.map V.int)) ∧ H2 F = some (.lst (rowsV (chF n ps))) ∧ Draw n m ps ls ∧ a2 ≤ a + 2 * ps.length ∧ k = ls.length,
      ⟨m, [], _, none, a, r, rfl, GL, kp0, hL0, upd_same, .start, by show a ≤ a + 2 * (0 : Int); omega, by rw [List.length_map, List.length_range]⟩, ?_⟩
    rintro k σ H2 ⟨ps, ls, y6, a2, r2, rfl, G2, kp2, hL, hF, D2, ha2, rfl⟩
    refine ⟨_, rfl, Nat.zero_le _, fun e0 ne0 => ?_⟩
    have G3 := G2.new (o := .lst []) ne0
    have hL3 : (upd H2 e0 (.lst [])) L = some (.lst (ls.map V.int)) := HD.stay ne0 hL
    have hF3 : (upd H2 e0 (.lst [])) F = some (.lst (rowsV (chF n ps))) := HD.stay ne0 hF
    have kp3 : HG.Kp g H (upd H2 e0 (.lst [])) := kp2.trans (HG.Kp.new ne0)
    have he3 : (upd H2 e0 (.lst [])) e0 = some (.lst []) := upd_same
    generalize upd H2 e0 (.lst []) = H3 at G3 hL3 hF3 kp3 he3
    refine ⟨.list (ls.map PyData.int), .list [], .lst (SqL.of hL3) (HD.dp_ints ls), .lst (SqL.of he3) .nil, HD.shaped_ints ls, rfl, _, rfl, ?_⟩
    rw [neqv_nil]
    have hsum := D2.sum
    refine ite2 (fun hn => ?_) (fun hn => ?_)
    · have hnl : ls ≠ [] := of_decide_eq_true hn
      have hlp : 0 < ls.length := List.length_pos_iff.mpr hnl
      refine ⟨_, fun σ' H' h => h, ?_⟩
      -- place
      refine ⟨_, rfl, .inl ⟨rfl, _, SqL.of hL3⟩, _, rfl, _, rfl, L, _, rfl, .inl (SqL.of hL3), g, c, ns, a2, r2, _, rfl, G3, by rw [List.length_map]; omega, by rw [List.length_map]; omega, by omega, fun d a4 r4 H4 d0 d1 ha4 G4 k4 => ?_⟩
      rw [List.length_map] at d1
      have hL4 := k4 _ _ Lg hL3
      have hF4 := k4 _ _ Fg hF3
      obtain ⟨j, x, ej, hj, hx, hat, hix, hmem⟩ := ix_of (ls := ls) d0 d1
      refine ⟨L, _, _, j, .int x, rfl, rfl, hL4, by omega, by omega, (ixN_seq hix).1, by rw [List.getElem?_map, hx]; rfl, ?_⟩
      obtain ⟨p, rfl, pm, pn⟩ := D2.lin _ hmem
      rw [erase_map]
      have G5 : HD.Gau (upd H4 L (.lst ((ls.eraseIdx j).map V.int))) g c ns a4 r4 := by
        have nc : L ≠ c := fun z => by
          have h1 := hL3
          rw [z, G3.c] at h1
          have h2 := kp2
          have hc0 : H L = none := nL
          have hc1 := G.c
          rw [← z, hc0] at hc1
          cases hc1
        exact ⟨by rw [upd_ne Lg.symm]; exact G4.g, by rw [upd_ne nc.symm]; exact G4.c, G4.a0, G4.r0, G4.len⟩
      have hL5 : (upd H4 L (.lst ((ls.eraseIdx j).map V.int))) L = some (.lst ((ls.eraseIdx j).map V.int)) := upd_same
      have hF5 : (upd H4 L (.lst ((ls.eraseIdx j).map V.int))) F = some (.lst (rowsV (chF n ps))) := by rw [upd_ne LF.symm]; exact hF4
      have kp5 : HG.Kp g H (upd H4 L (.lst ((ls.eraseIdx j).map V.int))) := fun q o nq e => by
        rw [upd_ne (fun z => by rw [z, nL] at e; cases e)]
        exact k4 _ _ nq (kp3 _ _ nq e)
      generalize upd H4 L (.lst ((ls.eraseIdx j).map V.int)) = H5 at G5 hL5 hF5 kp5
      -- row
      have hs : (S (rowF n ps)).length ≤ sizeLine := by rw [S_len, rowF_len]; omega
      have e1 : Txt.slice (S (rowF n ps)) none (some (p : Int)) = S ((rowF n ps).take p) := by
        have e := slice_to (a := rowF n ps) (i := (p : Int)) (by omega)
        rw [Int.toNat_natCast] at e
        exact e
      have e2 : Txt.slice (S (rowF n ps)) (some ((p : Int) + 1)) none = S ((rowF n ps).drop (p + 1)) := by
        have e := slice_from (a := rowF n ps) (i := (p : Int) + 1) (by omega)
        rw [show ((p : Int) + 1).toNat = p + 1 by omega] at e
        exact e
      refine ⟨_, rfl, _, rfl, _, rfl, S (rowF n ps), rfl, hs, ?_⟩
      rw [e1]
      refine ⟨_, rfl, by show 2 ≤ sizeLine; decide, fun l2 nl2 => ?_⟩
      have lg : l2 ≠ g := (ne_of_none G5.g nl2).symm
      refine ⟨g, c, ns, a4, r4, l2, _, rfl, G5.new nl2, by omega, lg, SqL.of upd_same, by simp, by simp, fun v a6 r6 H6 hv ha6 G6 k6 => ?_⟩
      have hL6 := k6 _ _ Lg (HD.stay nl2 hL5)
      have hF6 := k6 _ _ Fg (HD.stay nl2 hF5)
      have kp6 : HG.Kp g H H6 := (kp5.trans (HG.Kp.new nl2)).trans k6
      obtain ⟨sg, hsg, rfl⟩ : ∃ sg : Nat, (sg = 43 ∨ sg = 45) ∧ v = .str (S [sg]) := by
        rcases List.mem_cons.mp hv with e | e
        · exact ⟨43, .inl rfl, e⟩
        · rcases List.mem_cons.mp e with e | e
          · exact ⟨45, .inr rfl, e⟩
          · exact absurd e List.not_mem_nil
      have h1 : ((rowF n ps).take p).length ≤ 1000 := by rw [List.length_take, rowF_len]; omega
      have h2 : ((rowF n ps).drop (p + 1)).length ≤ 1000 := by rw [List.length_drop, rowF_len]; omega
      refine ⟨_, _, rfl, rfl, by rw [S_len, S_len]; show ((rowF n ps).take p).length + 1 ≤ _; omega, ?_⟩
      refine ⟨_, rfl, _, rfl, _, _, rfl, rfl, _, rfl, S (rowF n ps), rfl, hs, ?_⟩
      rw [e2]
      refine ⟨_, _, rfl, rfl, by rw [S_cat, S_len, S_len, List.length_append]; show ((rowF n ps).take p).length + 1 + _ ≤ _; omega, ?_⟩
      rw [S_cat, S_cat, show (rowF n ps).take p ++ [sg] ++ (rowF n ps).drop (p + 1) = rowF n (ps ++ [(p, sg)]) from rowF_with (s := (p, sg)) pn (by omega)]
      -- found
      refine ⟨_, rfl, .inl ⟨rfl, _, SqL.of hF6⟩, _, rfl, F, _, _, rfl, rfl, hF6, ?_, ?_⟩
      · unfold rowsV
        rw [List.length_map, chR_len]
        exact small1000 (by omega)
      · rw [← chF_snoc n ps (p, sg)]
        have hle := List.length_eraseIdx_of_lt hj
        have nc : F ≠ c := fun z => by
          have hc1 := G.c
          rw [← z, nFH] at hc1
          cases hc1
        exact ⟨(ls.eraseIdx j).length, by omega, ps ++ [(p, sg)], ls.eraseIdx j, _, a6, r6, rfl, ⟨by rw [upd_ne Fg.symm]; exact G6.g, by rw [upd_ne nc.symm]; exact G6.c, G6.a0, G6.r0, G6.len⟩, fun q o nq e => by
          rw [upd_ne (fun z => by rw [z, nFH] at e; cases e)]
          exact kp6 _ _ nq e, by rw [upd_ne LF]; exact hL6, upd_same, D2.next hx hsg, by rw [List.length_append]; show a6 ≤ a + 2 * ((ps.length + 1 : Nat) : Int); omega, rfl⟩
    · have el : ls = [] := Classical.not_not.mp (fun z => hn (decide_eq_true z))
      subst el
      refine ⟨_, rfl, ?_⟩
      have h0 : ps.length + 0 = m := hsum
      exact q F ps a2 r2 H3 (D2.fin m2 mn n12) (by omega) G3 kp3 nFH hF3
end
end K18
namespace K18
open PySem PySem.Spec PyProof.Rows L2 HR SX HZ
def spOth : Sp := fun vs H Q _ => ∃ (p : Addr) (c : List (List Nat)) (i n : Nat), vs = [.ref p, .int (i : Nat)] ∧ H p = some (.lst (rowsV c)) ∧ i < c.length ∧ c.length ≤ n ∧ n ≤ 12 ∧ (∀ l ∈ c, l.length = n) ∧
  ∀ (l : Addr) (H' : Hp), Grow H H' → H l = none → H' l = some (.lst (rowsV (othersL c i))) → Q (.ref l) H'
theorem last_of {α : Type} (xs : List α) (h : 0 < xs.length) : ∃ x, xs[xs.length - 1]? = some x := ⟨_, List.getElem?_eq_getElem (by omega)⟩
theorem atI_m1 {xs : List V} {x : V} (h : xs[xs.length - 1]? = some x) (h0 : 0 < xs.length) : atI xs (-1) = some x := by
  have e : xs = xs.take (xs.length - 1) ++ [x] := by
    have hl : xs.length - 1 < xs.length := by omega
    have hx : xs[xs.length - 1] = x := by rw [List.getElem?_eq_getElem hl] at h; exact Option.some.inj h
    have e2 : xs.drop (xs.length - 1) = [x] := by
      rw [← List.getElem_cons_drop hl, List.drop_of_length_le (by omega), hx]
    rw [← e2, List.take_append_drop]
  rw [e]
  exact atI_last _ _
theorem leq_iff {a b : List Nat} {n : Nat} (ha : a.length = n) (hb : b.length = n) : (((List.range n).filter fun q => !(a.getD q 0 == 48 || a.getD q 0 == b.getD q 0)) = []) ↔ leqL a b = true := by
  rw [List.filter_eq_nil_iff]
  unfold leqL
  rw [List.all_eq_true]
  constructor
  · intro h pr hpr
    obtain ⟨j, hj⟩ := List.getElem?_of_mem hpr
    obtain ⟨h1, h2⟩ := List.getElem?_zip_eq_some.mp hj
    have hjn : j < n := by
      have := (List.getElem?_eq_some_iff.mp h1).1
      omega
    have := h j (List.mem_range.mpr hjn)
    rw [List.getD_eq_getElem?_getD, List.getD_eq_getElem?_getD, h1, h2] at this
    have this' : ¬ (!(pr.1 == 48 || pr.1 == pr.2)) = true := this
    cases hh : (pr.1 == 48 || pr.1 == pr.2) with
    | true => rfl
    | false => exact absurd (by rw [hh]; rfl) this'
  · intro h q hq
    have hqn := List.mem_range.mp hq
    have hz : (a.zip b)[q]? = some (a[q]'(by omega), b[q]'(by omega)) := List.getElem?_zip_eq_some.mpr ⟨List.getElem?_eq_getElem _, List.getElem?_eq_getElem _⟩
    have := h _ (List.mem_of_getElem? hz)
    rw [List.getD_eq_getElem?_getD, List.getD_eq_getElem?_getD, List.getElem?_eq_getElem (by omega), List.getElem?_eq_getElem (by omega)]
    show ¬ (!(a[q]'(by omega) == 48 || a[q]'(by omega) == b[q]'(by omega))) = true
    rw [this]
    exact Bool.false_ne_true
theorem cands_len {c : List (List Nat)} {i : Nat} (k : Nat) : (((freeL c i).take k).flatMap (candsOf c i)).length ≤ 2 * k := by
  have key : ∀ l : List Nat, (l.flatMap (candsOf c i)).length ≤ 2 * l.length := fun l => by
    induction l with
    | nil => exact Nat.le_refl 0
    | cons a r ih =>
      rw [List.flatMap_cons, List.length_append, List.length_cons]
      have : (candsOf c i a).length ≤ 2 := by
        unfold candsOf
        exact List.length_filter_le _ _
      omega
  have := key ((freeL c i).take k)
  rw [List.length_take] at this
  omega
theorem strS_eq (a b : List Nat) : decide (V.str (S a) = V.str (S b)) = decide (a = b) := by
  by_cases h : a = b
  · rw [h, decide_eq_true rfl, decide_eq_true rfl]
  · rw [decide_eq_false h, decide_eq_false fun z => h ?_]
    have z2 : (a.toArray : Array Nat) = b.toArray := congrArg (·.cps) (V.str.inj z)
    exact congrArg (·.toList) z2
abbrev nmO : List Str := ["chain", "index", "places", "many", "found", "elder", "place", "sign", "row", "later", "mine", "its"]
section
variable {P : Program} {w : World} {K : PySem.W.Frag} {mg : Str → Option Value} {base : Heap}
theorem ok__law_others (T : HG.Tp K mg "_law_others" s__law_others ["chain", "index"]) (m_range : mg "range" = none) (m_len : mg "len" = none) (m_zip : mg "zip" = none) :
    FnOk P w K mg base CX0 1 T.f T.fd ["chain", "index"] spOth := by
  refine T.F.ok sc__law_others (fun vs H Q E h => ?_) (fun cdv A outer s H vs Q E hr h => ?_)
  · obtain ⟨p, c, i, n, rfl, _⟩ := h
    rfl
  · obtain ⟨p, c, i, n, rfl, hp, hi, hcn, hn, hrow, q⟩ := h
    refine ⟨_, (pss_cons (ps_par3 (i := 2) (j := 3) (l := 4) (by rfl) sc__law_others.nd rfl rfl rfl (by decide) (by decide) (by decide) rfl rfl rfl (pa_cons (pe_callB call_len_str (by rfl) m_len PySem.boot_len (pa_cons (pe_ix ix_list (pv 0) pe_int (fun _ _ => rfl)) pa_nil)) (pa_cons (pe_callB call_len_seq (by rfl) m_len PySem.boot_len (pa_cons (pv 0) pa_nil)) (pa_cons (pe_lst pa_nil) pa_nil))) (by rfl))
    (Evl.pss_cut (ps_set (i := 5) sc__law_others.nd rfl (.inr rfl) (pe_ifExp (pt_cmpR op_gt (pv 1) pe_int (nomark _)) (pe_ix ix_list (pv 0) (pe_op op_sub (pv 1) pe_int) (fun _ _ => rfl)) (pe_op op_mul_str pe_str (pv 2))))
    (pss_cons (ps_for PassesOwn.never rfl (pi_list (pe_lc (own := [("place", 6)]) (by rfl) sc__law_others.nd (pi_range1 rfl m_range (pa_cons (pv 3) pa_nil)) (blkOk_by (N := nmO) (sc := defScope s__law_others) (by decide +kernel)) (fun _ _ _ _ _ => (pg_name (i := 6) sc__law_others.nd rfl (Or.inl rfl))) (fun _ _ _ _ _ => (pts_one (pt_cmpR op_eq (pe_ix ix_str (pv 5) (pv 6) (fun _ _ => rfl)) pe_str (nomark _)))) (fun _ _ _ _ _ => (pv 6)))) (pg_name (i := 6) sc__law_others.nd rfl (Or.inl rfl))
      (pss_one (ps_for PassesOwn.never rfl (pi_str pe_str) (pg_name (i := 7) sc__law_others.nd rfl (Or.inl rfl))
        (pss_cons (ps_set (i := 8) sc__law_others.nd rfl (.inl rfl) (pe_op op_add_str (pe_op op_add_str (pe_slice C8.sl_txt (pv 5) po_none (po_some (pv 6))) (pv 7)) (pe_slice C8.sl_txt (pv 5) (po_some (pe_op op_add (pv 6) pe_int)) po_none)))
        (Evl.pss_cut (ps_set (i := 9) sc__law_others.nd rfl (.inl rfl) (pe_ifExp (pt_cmpR op_lt (pe_op op_add (pv 1) pe_int) (pv 3) (nomark _)) (pe_ix ix_list (pv 0) (pe_op op_add (pv 1) pe_int) (fun _ _ => rfl)) (pe_op op_add_str (pe_op op_add_str (pe_slice C8.sl_txt (pv 8) po_none (po_some (pe_op op_sub (pv 3) pe_int))) (pe_ix ix_str (pe_ix ix_list (pv 0) (pe_un un_neg pe_int) (fun _ _ => rfl)) (pe_op op_sub (pv 3) pe_int) (fun _ _ => rfl))) (pe_slice C8.sl_txt (pv 8) (po_some (pv 3)) po_none))))
        (pss_one (ps_if (PW.pt (pw_and (pt_cmpR op_ne (pv 8) (pe_ix ix_list (pv 0) (pv 1) (fun _ _ => rfl)) (nomark _)) (pw_and (pt_cmpR (op_eqD hr.units) (pe_lc (own := [("mine", 10), ("its", 11)]) (by rfl) sc__law_others.nd (pi_zip2 (by rfl) m_zip (pa_cons (pv 8) (pa_cons (pv 9) pa_nil))) (blkOk_by (N := nmO) (sc := defScope s__law_others) (by decide +kernel)) (fun _ _ _ _ _ => (pg_tupK (n := 2) K rfl rfl (pgs_cons (pg_name (i := 10) sc__law_others.nd rfl (Or.inl rfl)) (pgs_cons (pg_name (i := 11) sc__law_others.nd rfl (Or.inl rfl)) pgs_nil)))) (fun _ _ _ _ _ => (pts_one (pt_cmpR (HE.op_notIn_seqK K rfl) (pv 10) (pe_tup (pa_cons pe_str (pa_cons (pv 11) pa_nil))) rfl))) (fun _ _ _ _ _ => pe_int)) (pe_lst pa_nil) (nomark _)) (pw_and1 (PW.pt (pw_or (pt_cmpR op_lt (pe_op op_add (pv 1) pe_int) (pv 3) (nomark _)) (pw_or1 (pt_cmpR op_eq (pv 8) (pv 9) (nomark _)))))))))
          (pss_one (ps_expr (pe_bm PySem.F.plainAttrs_list PySem.F.slot_list_append PySem.F.type_list_append mt_append (pv 4) (pa_cons (pv 8) pa_nil))))
          pss_nil)))))))
    (pss_one (ps_ret (pv 4)))))), ?_⟩
    have sz := sizeLine_eq
    have m1 : 0 < c.length := by omega
    have h0 := rows_at m1
    have l0 : (c.getD 0 []).length = n := by
      rw [List.getD_eq_getElem?_getD, List.getElem?_eq_getElem m1]
      exact hrow _ (List.getElem_mem m1)
    have len2 : (rowsV c).length = c.length := by unfold rowsV; rw [List.length_map]
    refine ⟨_, rfl, p, _, 0, _, rfl, rfl, SqL.of hp, atI_nat (j := 0) h0, S (c.getD 0 []), rfl, by rw [S_len]; omega, ?_⟩
    refine ⟨_, rfl, p, _, rfl, .inl (SqL.of hp), Nat.zero_le _, fun F nF => ⟨_, _, _, rfl, ?_⟩⟩
    rw [len2, show (S (c.getD 0 [])).length = n from (S_len _).trans l0]
    have gF : Grow H (upd H F (.lst [])) := Grow.new nF
    have hF : (upd H F (.lst [])) F = some (.lst []) := upd_same
    have hp1 := gF _ _ hp
    generalize upd H F (.lst []) = H1 at gF hF hp1
    obtain ⟨lo, hlo⟩ : ∃ lo, lo = lowL c i := ⟨_, rfl⟩
    have row_i : ∀ j, j < c.length → (c.getD j []).length = n := fun j hj => by
      rw [List.getD_eq_getElem?_getD, List.getElem?_eq_getElem hj]
      exact hrow _ (List.getElem_mem hj)
    have hlol : lo.length = n := by
      rw [hlo]
      unfold lowL
      by_cases h0 : 0 < i
      · rw [if_pos h0]
        exact row_i _ (by omega)
      · rw [if_neg h0, List.length_replicate]
        exact row_i _ hi
    refine ⟨fun σ' H' => σ' = [some (.ref p), some (.int (i : Nat)), some (.int (n : Nat)), some (.int (c.length : Nat)), some (.ref F), some (.str (S lo)), none, none, none, none, none, none] ∧ H' = H1, ?_, ?_⟩
    · refine ⟨_, rfl, _, _, rfl, rfl, _, rfl, ite2 (fun h => ?_) (fun h => ?_)⟩
      · have h0' : 0 < i := by
          have : (0 : Int) < (i : Int) := of_decide_eq_true h
          omega
        have gj := rows_at (show i - 1 < c.length by omega)
        refine ⟨_, rfl, _, rfl, _, _, rfl, rfl, p, _, _, _, rfl, rfl, SqL.of hp1, (by rw [show ((i : Int) - 1) = ((i - 1 : Nat) : Int) by omega]; exact atI_nat gj), ?_⟩
        rw [hlo, show lowL c i = c.getD (i - 1) [] from if_pos h0']
        exact ⟨rfl, rfl⟩
      · have h0' : ¬ 0 < i := fun z => h (decide_eq_true (show (0 : Int) < (i : Int) by omega))
        refine ⟨_, rfl, _, _, rfl, rfl, mul_ok (by omega), ?_⟩
        rw [hlo, show lowL c i = List.replicate n 48 from (if_neg h0').trans (by rw [row_i _ hi]), show Txt.mul "0" (n : Int) = S (List.replicate n 48) from mul_S n]
        exact ⟨rfl, rfl⟩
    rintro σ' H1 ⟨rfl, rfl⟩
    refine ⟨_, rfl, _, rfl, by omega, by omega, fun D nD => ?_⟩
    have hn' : ((c.length : Int)).toNat = c.length := by omega
    rw [hn']
    refine lc_range (LcF H1 D (fun j => lo.getD j 0 == 48) (fun j => .int (j : Nat))) ⟨Grow.new nD, upd_same⟩ ?_ ?_
    · rintro j H2 hj ac
      have hjl : lo[j]? = some (lo.getD j 0) := by
        rw [List.getD_eq_getElem?_getD, List.getElem?_eq_getElem (show j < lo.length by omega)]
        rfl
      have e1 : (0 + (j : Int)) = (j : Int) := by omega
      refine ⟨rfl, ?_⟩
      refine ⟨_, rfl, _, rfl, S lo, _, (lo.getD j 0), rfl, rfl, by rw [S_len]; omega, (by rw [e1]; exact atI_nat (show (S lo).cps.toList[j]? = some (lo.getD j 0) by rw [show (S lo).cps.toList = lo by simp [S]]; exact hjl)), rfl, _, rfl, ?_⟩
      have ed : decide (V.str ⟨#[lo.getD j 0]⟩ = V.str "0") = (lo.getD j 0 == 48) := sg1_eq (lo.getD j 0) 48
      dsimp only
      rw [ed]
      refine ite2 (fun h => ?_) (fun h => ?_)
      · refine ⟨_, rfl, ?_⟩
        rw [e1]
        exact lcf_yes nD ac Grow.refl h (by omega)
      · exact lcf_no ac Grow.refl (Bool.eq_false_iff.mpr h)
    · rintro H2 ac
      have hfree : ((List.range c.length).filter fun j => lo.getD j 0 == 48) = freeL c i := by rw [hlo]; rfl
      have hD : H2 D = some (.lst ((freeL c i).map fun j : Nat => V.int (j : Nat))) := by rw [← hfree]; exact ac.2
      have g2 : Grow H1 H2 := ac.1
      refine ⟨D, rfl, ⟨_, SqL.of hD⟩, ?_⟩
      have DF : D ≠ F := fun z => by rw [z, hF] at nD; cases nD
      refine for_it (walk_list (K := K) (a := D) (xs := (freeL c i).map fun j : Nat => V.int (j : Nat))) (fun k σ H3 => ∃ y6 y7 y8 y9, σ = [some (.ref p), some (.int (i : Nat)), some (.int (n : Nat)), some (.int (c.length : Nat)), some (.ref F), some (.str (S lo)), y6, y7, y8, y9, none, none] ∧ HG.Kp F H2 H3 ∧ H3 F = some (.lst (rowsV (((freeL c i).take k).flatMap (candsOf c i)))))
        ⟨none, none, none, none, rfl, HG.Kp.refl, g2 _ _ hF⟩ (fun k σ H3 _ z => by obtain ⟨_, _, _, _, _, kk, _⟩ := z; exact SqL.of (kk _ _ DF hD)) ?_ ?_
      · rintro k x σ H3 H4 hk ⟨y6, y7, y8, y9, rfl, k3, f3⟩ ⟨rfl, hx⟩
        obtain ⟨pl, hpl, rfl⟩ := HD.get_map hx
        have hkl : k < (freeL c i).length := (List.getElem?_eq_some_iff.mp hpl).1
        have hf24 : (freeL c i).length ≤ 12 := by
          have := List.length_filter_le (fun p => (lowL c i).getD p 0 == 48) (List.range c.length)
          rw [List.length_range] at this
          exact Nat.le_trans this (by omega)
        have plm : pl < c.length := by
          have := List.mem_filter.mp (List.mem_of_getElem? hpl)
          exact List.mem_range.mp this.1
        refine ⟨"+-", rfl, ?_⟩
        refine for_it (walk_str (z := "+-")) (fun j σ H5 => ∃ y7 y8 y9, σ = [some (.ref p), some (.int (i : Nat)), some (.int (n : Nat)), some (.int (c.length : Nat)), some (.ref F), some (.str (S lo)), some (.int (pl : Nat)), y7, y8, y9, none, none] ∧ HG.Kp F H2 H5 ∧ H5 F = some (.lst (rowsV (((freeL c i).take k).flatMap (candsOf c i) ++ ((([43, 45] : List Nat).take j).map fun s => withS lo pl s).filter (candB c i)))))
          ⟨y7, y8, y9, rfl, k3, by rw [List.take_zero, List.map_nil, List.filter_nil, List.append_nil]; exact f3⟩ (fun _ _ _ _ _ => trivial) ?_ ?_
        · rintro j x σ H5 H6 hj ⟨y7, y8, y9, rfl, k5, f5⟩ ⟨rfl, sc, hsc, rfl⟩
          have hsc2 : (([43, 45] : List Nat))[j]? = some sc := by
            match j, hj, hsc with
            | 0, _, h => cases h; rfl
            | 1, _, h => cases h; rfl
            | j + 2, hj, _ => exact absurd hj (by show ¬ j + 2 < 2; omega)
          have pF : p ≠ F := fun z => by rw [z, nF] at hp; cases hp
          have hp6 := k5 _ _ pF (g2 _ _ hp1)
          have hs : (S lo).length ≤ sizeLine := by rw [S_len]; omega
          have e1 : Txt.slice (S lo) none (some (pl : Int)) = S (lo.take pl) := by
            have e := slice_to (a := lo) (i := (pl : Int)) (by omega)
            rw [Int.toNat_natCast] at e
            exact e
          have e2 : Txt.slice (S lo) (some ((pl : Int) + 1)) none = S (lo.drop (pl + 1)) := by
            have e := slice_from (a := lo) (i := (pl : Int) + 1) (by omega)
            rw [show ((pl : Int) + 1).toNat = pl + 1 by omega] at e
            exact e
          have h1 : (lo.take pl).length ≤ 1000 := by rw [List.length_take]; omega
          have h2 : (lo.drop (pl + 1)).length ≤ 1000 := by rw [List.length_drop]; omega
          refine ⟨_, rfl, _, rfl, _, rfl, S lo, rfl, hs, ?_⟩
          rw [e1]
          refine ⟨_, rfl, S (lo.take pl), S [sc], rfl, rfl, by rw [S_len, S_len]; show (lo.take pl).length + 1 ≤ _; omega, ?_⟩
          refine ⟨_, rfl, _, rfl, _, _, rfl, rfl, _, rfl, S lo, rfl, hs, ?_⟩
          rw [e2]
          refine ⟨_, _, rfl, rfl, by rw [S_cat, S_len, S_len, List.length_append]; show (lo.take pl).length + 1 + _ ≤ _; omega, ?_⟩
          rw [S_cat, S_cat, show lo.take pl ++ [sc] ++ lo.drop (pl + 1) = withS lo pl sc from rfl]
          have rl : (withS lo pl sc).length = n := (withS_len (by omega)).trans hlol
          obtain ⟨ro, hro⟩ : ∃ ro, ro = withS lo pl sc := ⟨_, rfl⟩
          rw [← hro] at rl ⊢
          have hrs : (S ro).length ≤ sizeLine := by rw [S_len]; omega
          obtain ⟨la, hla⟩ : ∃ la, la = latL c i ro := ⟨_, rfl⟩
          have lal : la.length = n := by
            rw [hla]
            unfold latL
            by_cases h : i + 1 < c.length
            · rw [if_pos h]
              exact row_i _ h
            · rw [if_neg h, List.length_append, List.length_append, List.length_take, List.length_drop]
              show min (c.length - 1) ro.length + 1 + (ro.length - c.length) = n
              omega
          refine ⟨fun σ' H' => σ' = [some (.ref p), some (.int (i : Nat)), some (.int (n : Nat)), some (.int (c.length : Nat)), some (.ref F), some (.str (S lo)), some (.int (pl : Nat)), some (.str (S [sc])), some (.str (S ro)), some (.str (S la)), none, none] ∧ H' = H6, ?_, ?_⟩
          · refine ⟨_, rfl, _, _, rfl, rfl, _, rfl, _, _, rfl, rfl, _, rfl, ite2 (fun h => ?_) (fun h => ?_)⟩
            · have h1 : i + 1 < c.length := by
                have : (i : Int) + 1 < (c.length : Int) := of_decide_eq_true h
                omega
              have gk := rows_at h1
              refine ⟨_, rfl, _, rfl, _, _, rfl, rfl, p, _, _, _, rfl, rfl, SqL.of hp6, (by rw [show ((i : Int) + 1) = ((i + 1 : Nat) : Int) by omega]; exact atI_nat gk), ?_⟩
              rw [hla, show latL c i ro = c.getD (i + 1) [] from if_pos h1]
              exact ⟨rfl, rfl⟩
            · have h1 : ¬ i + 1 < c.length := fun z => h (decide_eq_true (show (i : Int) + 1 < (c.length : Int) by omega))
              have gl := rows_at (show c.length - 1 < c.length by omega)
              have ll := row_i (c.length - 1) (by omega)
              have hg : (c.getD (c.length - 1) [])[c.length - 1]? = some ((c.getD (c.length - 1) []).getD (c.length - 1) 0) := by
                rw [List.getD_eq_getElem?_getD, List.getD_eq_getElem?_getD]
                rw [List.getD_eq_getElem?_getD] at ll
                rw [List.getElem?_eq_getElem (show c.length - 1 < ((c[c.length - 1]?).getD []).length by omega)]
                rfl
              have e3 : Txt.slice (S ro) none (some ((c.length : Int) - 1)) = S (ro.take (c.length - 1)) := by
                have e := slice_to (a := ro) (i := (c.length : Int) - 1) (by omega)
                rw [show ((c.length : Int) - 1).toNat = c.length - 1 by omega] at e
                exact e
              have e4 : Txt.slice (S ro) (some (c.length : Int)) none = S (ro.drop c.length) := by
                have e := slice_from (a := ro) (i := (c.length : Int)) (by omega)
                rw [Int.toNat_natCast] at e
                exact e
              have w1 : (ro.take (c.length - 1)).length ≤ 1000 := by rw [List.length_take]; omega
              have w2 : (ro.drop c.length).length ≤ 1000 := by rw [List.length_drop]; omega
              refine ⟨_, rfl, _, rfl, _, _, rfl, rfl, _, rfl, S ro, rfl, hrs, ?_⟩
              rw [e3]
              refine ⟨_, rfl, _, rfl, p, _, _, _, rfl, rfl, SqL.of hp6, atI_m1 (by rw [len2]; exact gl) (by rw [len2]; exact m1), ?_⟩
              refine ⟨_, rfl, _, _, rfl, rfl, S (c.getD (c.length - 1) []), _, ((c.getD (c.length - 1) []).getD (c.length - 1) 0), rfl, rfl, by rw [S_len]; omega, (by rw [show ((c.length : Int) - 1) = ((c.length - 1 : Nat) : Int) by omega]; exact atI_nat (show (S (c.getD (c.length - 1) [])).cps.toList[c.length - 1]? = _ by rw [show (S (c.getD (c.length - 1) [])).cps.toList = c.getD (c.length - 1) [] by simp [S]]; exact hg)), ?_⟩
              refine ⟨S (ro.take (c.length - 1)), S [(c.getD (c.length - 1) []).getD (c.length - 1) 0], rfl, rfl, by rw [S_len, S_len]; show (ro.take (c.length - 1)).length + 1 ≤ _; omega, ?_⟩
              refine ⟨_, rfl, _, rfl, _, rfl, S ro, rfl, hrs, ?_⟩
              rw [e4]
              refine ⟨_, _, rfl, rfl, by rw [S_cat, S_len, S_len, List.length_append]; show (ro.take (c.length - 1)).length + 1 + _ ≤ _; omega, ?_⟩
              rw [S_cat, S_cat, hla, show latL c i ro = ro.take (c.length - 1) ++ [(c.getD (c.length - 1) []).getD (c.length - 1) 0] ++ ro.drop c.length from if_neg h1]
              exact ⟨rfl, rfl⟩
          rintro σ' H6 ⟨rfl, rfl⟩
          have gi := rows_at hi
          have len24 : (rowsV (((freeL c i).take k).flatMap (candsOf c i) ++ ((([43, 45] : List Nat).take j).map fun s => withS lo pl s).filter (candB c i))).length ≤ 1000 := by
            unfold rowsV
            rw [List.length_map, List.length_append]
            have q1 := cands_len (c := c) (i := i) k
            have q2 := List.length_filter_le (candB c i) ((([43, 45] : List Nat).take j).map fun s => withS lo pl s)
            rw [List.length_map, List.length_take] at q2
            have q3 : ([43, 45] : List Nat).length = 2 := rfl
            omega
          have nxt : ((([43, 45] : List Nat).take (j + 1)).map fun s => withS lo pl s).filter (candB c i) = ((([43, 45] : List Nat).take j).map fun s => withS lo pl s).filter (candB c i) ++ (if candB c i ro = true then [ro] else []) := by
            rw [HD.take_snoc hsc2, List.map_append, List.filter_append]
            congr 1
            show List.filter (candB c i) [withS lo pl sc] = _
            rw [← hro]
            by_cases h : candB c i ro = true
            · rw [if_pos h, List.filter_cons_of_pos h, List.filter_nil]
            · rw [if_neg h, List.filter_cons_of_neg h, List.filter_nil]
          have candE : candB c i ro = (decide (ro ≠ c.getD i []) && (leqL ro la && (decide (i + 1 < c.length) || decide (ro = la)))) := by rw [hla]; rfl
          have skip : candB c i ro = false → ∀ H7, Grow H6 H7 → ∃ y7 y8 y9, ([some (.ref p), some (.int (i : Nat)), some (.int (n : Nat)), some (.int (c.length : Nat)), some (.ref F), some (.str (S lo)), some (.int (pl : Nat)), some (.str (S [sc])), some (.str (S ro)), some (.str (S la)), none, none] : L2.St) = [some (.ref p), some (.int (i : Nat)), some (.int (n : Nat)), some (.int (c.length : Nat)), some (.ref F), some (.str (S lo)), some (.int (pl : Nat)), y7, y8, y9, none, none] ∧ HG.Kp F H2 H7 ∧
              H7 F = some (.lst (rowsV (((freeL c i).take k).flatMap (candsOf c i) ++ ((([43, 45] : List Nat).take (j + 1)).map fun s => withS lo pl s).filter (candB c i)))) := fun hc H7 g7 => by
            refine ⟨_, _, _, rfl, fun b o nb e => g7 _ _ (k5 _ _ nb e), ?_⟩
            rw [nxt, hc, if_neg Bool.false_ne_true, List.append_nil]
            exact g7 _ _ f5
          have app : candB c i ro = true → ∀ H7, Grow H6 H7 → ∃ y7 y8 y9, ([some (.ref p), some (.int (i : Nat)), some (.int (n : Nat)), some (.int (c.length : Nat)), some (.ref F), some (.str (S lo)), some (.int (pl : Nat)), some (.str (S [sc])), some (.str (S ro)), some (.str (S la)), none, none] : L2.St) = [some (.ref p), some (.int (i : Nat)), some (.int (n : Nat)), some (.int (c.length : Nat)), some (.ref F), some (.str (S lo)), some (.int (pl : Nat)), y7, y8, y9, none, none] ∧
              HG.Kp F H2 (upd H7 F (.lst (rowsV (((freeL c i).take k).flatMap (candsOf c i) ++ ((([43, 45] : List Nat).take j).map fun s => withS lo pl s).filter (candB c i)) ++ [.str (S ro)]))) ∧
              (upd H7 F (.lst (rowsV (((freeL c i).take k).flatMap (candsOf c i) ++ ((([43, 45] : List Nat).take j).map fun s => withS lo pl s).filter (candB c i)) ++ [.str (S ro)]))) F = some (.lst (rowsV (((freeL c i).take k).flatMap (candsOf c i) ++ ((([43, 45] : List Nat).take (j + 1)).map fun s => withS lo pl s).filter (candB c i)))) := fun hc H7 g7 => by
            refine ⟨_, _, _, rfl, fun b o nb e => ?_, ?_⟩
            · rw [upd_ne nb]
              exact g7 _ _ (k5 _ _ nb e)
            · rw [upd_same, nxt, hc, if_pos rfl, ← List.append_assoc]
              unfold rowsV
              rw [List.map_append (l₂ := [ro])]
              rfl
          refine ⟨_, rfl, _, rfl, _, rfl, p, _, _, _, rfl, rfl, SqL.of hp6, atI_nat gi, rfl, _, rfl, ?_⟩
          rw [strS_eq]
          by_cases hne : ro = c.getD i []
          · rw [decide_eq_true hne]
            exact iteF (iteF (skip (by rw [candE, decide_eq_false (fun z => z hne)]; rfl) H6 Grow.refl))
          · rw [decide_eq_false hne]
            refine iteT ?_
            refine ⟨_, rfl, _, rfl, S ro, S la, rfl, fun D2 nD2 => ?_⟩
            refine lc_it walk_f (LcF H6 D2 (fun q => !(ro.getD q 0 == 48 || ro.getD q 0 == la.getD q 0)) (fun _ => .int 1)) ⟨Grow.new nD2, upd_same⟩ (fun _ _ _ _ => trivial) ?_ ?_
            · rintro q x H7 H8 hq a ⟨t, l, rfl, nt, rfl, x1, y1, hx, hy, rfl⟩
              refine ⟨t, _, rfl, SqT.of upd_same, rfl, _, _, rfl, _, _, rfl, rfl, ?_⟩
              refine ⟨rfl, ?_⟩
              refine ⟨_, rfl, _, rfl, by show 2 ≤ sizeLine; decide, fun t2 nt2 => ⟨t2, _, rfl, .inr (SqT.of upd_same), rfl, rfl, ?_⟩⟩
              have hrq : ro.getD q 0 = x1 := by rw [List.getD_eq_getElem?_getD, S_at hx]; rfl
              have hlq : la.getD q 0 = y1 := by rw [List.getD_eq_getElem?_getD, S_at hy]; rfl
              have qn : q < n := by rw [S_size, S_size, rl, lal, Nat.min_self] at hq; exact hq
              have gt : Grow H7 (upd (upd H7 t (.tup [.str ⟨#[x1]⟩, .str ⟨#[y1]⟩])) t2 (.tup [.str "0", .str ⟨#[y1]⟩])) := (Grow.new nt).trans (Grow.new nt2)
              refine ⟨_, rfl, ?_⟩
              dsimp only
              rw [if_pos rfl, pair_in]
              cases hb : (x1 == 48 || x1 == y1) with
              | true => exact iteF (lcf_no a gt (by rw [hrq, hlq, hb]; rfl))
              | false => exact iteT (lcf_yes nD2 a gt (by rw [hrq, hlq, hb]; rfl) (by omega))
            · rintro H7 a
              rw [S_size, S_size, rl, lal, Nat.min_self] at a
              have g7 : Grow H6 H7 := a.1
              obtain ⟨ws, hws⟩ : ∃ ws, ws = (List.range n).filter fun q => !(ro.getD q 0 == 48 || ro.getD q 0 == la.getD q 0) := ⟨_, rfl⟩
              have hD : H7 D2 = some (.lst ((ws.map fun _ => (1 : Int)).map V.int)) := by
                rw [List.map_map, hws]
                exact a.2
              refine ⟨Nat.zero_le _, fun D3 nD3 => ?_⟩
              have g8 : Grow H6 (upd H7 D3 (.lst [])) := g7.trans (Grow.new nD3)
              refine ⟨.list ((ws.map fun _ => (1 : Int)).map PyData.int), .list [], .lst (SqL.of (HD.stay nD3 hD)) (HD.dp_ints _), .lst (SqL.of upd_same) .nil, HD.shaped_ints _, rfl, _, rfl, ?_⟩
              rw [HD.eqv_nil]
              generalize upd H7 D3 (.lst []) = H8 at g8
              have hl := leq_iff rl lal
              rw [← hws] at hl
              by_cases hws0 : ws = []
              · have hlt := hl.mp hws0
                rw [decide_eq_true (show (ws.map fun _ => (1 : Int)) = [] by rw [hws0]; rfl)]
                refine iteT ?_
                refine ⟨_, rfl, _, _, rfl, rfl, _, rfl, _, _, rfl, rfl, _, rfl, ?_⟩
                have f8 := g8 _ _ f5
                by_cases h1 : i + 1 < c.length
                · rw [decide_eq_true (show (i : Int) + 1 < (c.length : Int) by omega)]
                  refine iteT (iteT ?_)
                  exact ⟨_, rfl, .inl ⟨rfl, _, SqL.of f8⟩, _, rfl, F, _, _, rfl, rfl, f8, small1000 len24, app (by rw [candE, decide_eq_true hne, hlt, decide_eq_true h1]; rfl) H8 g8⟩
                · rw [decide_eq_false (show ¬ (i : Int) + 1 < (c.length : Int) by omega)]
                  refine iteF ?_
                  refine ⟨_, rfl, _, rfl, rfl, _, rfl, ?_⟩
                  rw [strS_eq]
                  by_cases he : ro = la
                  · rw [decide_eq_true he]
                    refine iteT ?_
                    exact ⟨_, rfl, .inl ⟨rfl, _, SqL.of f8⟩, _, rfl, F, _, _, rfl, rfl, f8, small1000 len24, app (by rw [candE, decide_eq_true hne, hlt, decide_eq_true he, Bool.or_true]; rfl) H8 g8⟩
                  · rw [decide_eq_false he]
                    exact iteF (skip (by rw [candE, decide_eq_false he, decide_eq_false h1, Bool.false_or, Bool.and_false, Bool.and_false]) H8 g8)
              · have hlf : leqL ro la = false := Bool.eq_false_iff.mpr fun z => hws0 (hl.mpr z)
                rw [decide_eq_false (show ¬ (ws.map fun _ => (1 : Int)) = [] from fun z => hws0 (List.map_eq_nil_iff.mp z))]
                exact iteF (iteF (skip (by rw [candE, hlf, Bool.false_and, Bool.and_false]) H8 g8))
        · rintro σ H5 ⟨y7, y8, y9, rfl, k5, f5⟩
          refine ⟨_, _, _, _, rfl, k5, ?_⟩
          rw [f5, HD.take_snoc hpl, List.flatMap_append]
          congr 3
          rw [List.flatMap_singleton]
          unfold candsOf
          rw [hlo]
          rfl
      · rintro σ H3 ⟨y6, y7, y8, y9, rfl, k3, f3⟩
        refine ⟨_, rfl, q F H3 ?_ nF ?_⟩
        · intro b o e
          exact k3 _ _ (fun z => by rw [z, nF] at e; cases e) (g2 _ _ (gF _ _ e))
        · rw [f3, List.length_map, List.take_of_length_le (Nat.le_refl _)]
          rfl
end
end K18
namespace K18
open PySem PySem.Spec PyProof.Rows L2 HR SX HZ
/-! ### rows as data -/
theorem dp_rows {K : PySem.W.Frag} {H : Hp} : ∀ c : List (List Nat), DpAll K H (rowsV c) (c.map fun l => PyData.str (S l))
  | [] => .nil
  | x :: r => .cons (.str _) (dp_rows r)
theorem eqv_rows (c : List (List Nat)) : PyData.eqv (.list (c.map fun l => PyData.str (S l))) (.list []) = decide (c = []) := by
  cases c with
  | nil => simp only [List.map_nil, PyData.eqv, PyData.eqvAll]; rfl
  | cons x r => simp only [List.map_cons, PyData.eqv, PyData.eqvAll]; rfl
theorem ok_row {l : List Nat} (h : l.all sgn = true) : PyData.strOk (S l) = true := by
  show (l.toArray).all (· < 0x110000) = true
  rw [← Array.all_toList, List.all_eq_true]
  rw [List.all_eq_true] at h
  intro x hx
  have hs := h x (by simpa using hx)
  unfold sgn at hs
  rw [Bool.or_eq_true, Bool.or_eq_true] at hs
  rcases hs with e | e | e <;> rw [eq_of_beq e] <;> decide
theorem lay_rows : ∀ c : List (List Nat), (∀ l ∈ c, l.all sgn = true) → PyData.canLayAll0 (c.map fun l => PyData.str (S l)) = true
  | [], _ => by simp [PyData.canLayAll0]
  | x :: r, h => by
    simp only [List.map_cons, PyData.canLayAll0, PyData.canLay0, lay_rows r fun l hl => h l (List.mem_cons_of_mem _ hl), ok_row (h x List.mem_cons_self), Bool.and_self]
theorem depth_rows : ∀ c : List (List Nat), PyData.depthAll (c.map fun l => PyData.str (S l)) = 0
  | [] => rfl
  | _ :: r => by simp only [List.map_cons, PyData.depthAll, PyData.depth, depth_rows r]; rfl
theorem shaped_rows {c : List (List Nat)} (h : ∀ l ∈ c, l.all sgn = true) : SeqAt.shaped (.list (c.map fun l => PyData.str (S l))) = true := by
  simp only [SeqAt.shaped, PyData.canLay0, PyData.depth, lay_rows c h, depth_rows]
  rfl
theorem eqvT_refl {c : List (List Nat)} (h : ∀ l ∈ c, l.all sgn = true) : PyData.eqv (.tuple (c.map fun l => PyData.str (S l))) (.tuple (c.map fun l => PyData.str (S l))) = true := PySem.SeqAt.eqvAll_refl _ (lay_rows c h)
theorem shapedT {c : List (List Nat)} (h : ∀ l ∈ c, l.all sgn = true) : SeqAt.shaped (.tuple (c.map fun l => PyData.str (S l))) = true := by
  simp only [SeqAt.shaped, PyData.canLay0, PyData.depth, lay_rows c h, depth_rows]
  rfl
abbrev rowsD (c : List (List Nat)) : List PyData := c.map fun l => PyData.str (S l)
theorem text_len {l : List Nat} (h : l.all sgn = true) (hl : l.length ≤ 12) : (reprText (S l)).length ≤ 122 := by
  have e := PySem.StrLaws.reprText_len (S l) fun c hc => by
    have hc2 : c ∈ l := by simpa [S] using hc
    have hs := List.all_eq_true.mp h c hc2
    unfold sgn at hs
    rw [Bool.or_eq_true, Bool.or_eq_true] at hs
    rcases hs with e | e | e <;> rw [eq_of_beq e] <;> decide
  rw [S_len l] at e
  omega
theorem rows_facts : ∀ (c : List (List Nat)), (∀ l ∈ c, l.all sgn = true ∧ l.length ≤ 12) → PyData.showableAll (rowsD c) = true ∧ PyData.hasDictAll (rowsD c) = false ∧ ((PyData.shownAll (rowsD c)).map (·.length)).sum ≤ 122 * c.length ∧ (PyData.shownAll (rowsD c)).length = c.length
  | [], _ => ⟨rfl, rfl, Nat.le_refl _, rfl⟩
  | l :: r, h => by
    obtain ⟨i1, i2, i3, i4⟩ := rows_facts r fun x hx => h x (List.mem_cons_of_mem _ hx)
    have hl := h l List.mem_cons_self
    have e := text_len hl.1 hl.2
    unfold rowsD
    rw [List.map_cons]
    refine ⟨?_, ?_, ?_, ?_⟩
    · simp only [PyData.showableAll, PyData.showable, Bool.true_and]
      exact i1
    · simp only [PyData.hasDictAll, PyData.hasDict, Bool.false_or]
      exact i2
    · simp only [PyData.shownAll, PyData.shown, List.map_cons, List.sum_cons, List.length_cons]
      have i3' : (List.map (fun x => x.length) (PyData.shownAll (List.map (fun l => PyData.str (S l)) r))).sum ≤ 122 * r.length := i3
      omega
    · simp only [PyData.shownAll, List.length_cons]
      exact congrArg Nat.succ i4
section
variable {c : List (List Nat)} (h : ∀ l ∈ c, l.all sgn = true ∧ l.length ≤ 12) (hc : c.length ≤ 12)
include h hc
theorem shows_list : HE.Shows (.list (rowsD c)) := by
  obtain ⟨i1, i2, i3, i4⟩ := rows_facts c h
  refine ⟨?_, ?_, ?_, ?_⟩
  · simp only [PyData.showable]
    exact i1
  · simp only [PyData.hasDict]
    exact i2
  · simp only [PyData.depth]
    rw [depth_rows]
    decide
  · have e := listText_len_le (PyData.shownAll (rowsD c))
    show (listText (PyData.shownAll (rowsD c))).length ≤ sizeLine
    rw [sizeLine_eq]
    rw [i4] at e
    omega
theorem shows_two : HE.Shows (.list [.tuple (rowsD c), .tuple (rowsD c)]) := by
  obtain ⟨i1, i2, i3, i4⟩ := rows_facts c h
  have e := tupleText_len_le (PyData.shownAll (rowsD c))
  rw [i4] at e
  refine ⟨?_, ?_, ?_, ?_⟩
  · simp only [PyData.showable, PyData.showableAll, Bool.and_true]
    rw [i1]
    rfl
  · simp only [PyData.hasDict, PyData.hasDictAll, Bool.or_false]
    rw [i2]
    rfl
  · simp only [PyData.depth, PyData.depthAll]
    rw [depth_rows]
    decide
  · have e2 := listText_len_le (PyData.shownAll [.tuple (rowsD c), .tuple (rowsD c)])
    show (listText (PyData.shownAll [.tuple (rowsD c), .tuple (rowsD c)])).length ≤ sizeLine
    rw [sizeLine_eq]
    simp only [PyData.shownAll, PyData.shown, List.map_cons, List.map_nil, List.sum_cons, List.sum_nil, List.length_cons, List.length_nil] at e2
    have e3 : (listText [tupleText (PyData.shownAll (rowsD c)), tupleText (PyData.shownAll (rowsD c))]).length ≤ 16777216 := by omega
    simp only [PyData.shownAll, PyData.shown]
    exact e3
end
theorem shows_nn : HE.Shows (.list [.none, .none]) := ⟨rfl, rfl, by decide, by decide +kernel⟩
def dueV : Option Addr → V
  | none => .non
  | some t => .ref t
/-! ### what is no d-chain -/
theorem full_short {xs : List V} (h : chainV xs = false) : fullV xs = false := by
  show (chainV xs && _) = false
  rw [h]
  rfl
theorem full_sizes {xs : List V} (h : sizesV xs ≠ upTo xs.length) : fullV xs = false := by
  show (chainV xs && (decide (sizesV xs = upTo xs.length) && _)) = false
  rw [decide_eq_false h, Bool.false_and, Bool.and_false]
theorem sizes_head {x : V} {r : List V} (h : sizeL (strL x) ≠ 1) : fullV (x :: r) = false := full_sizes fun e => h (by
  have e2 : (sizesV (x :: r))[0]? = (upTo (x :: r).length)[0]? := congrArg (·[0]?) e
  have e4 : (upTo (x :: r).length)[0]? = some (1 + ((0 : Nat) : Int)) := by
    unfold upTo
    rw [List.getElem?_map, List.getElem?_range (show 0 < (x :: r).length from Nat.succ_pos _)]
    rfl
  rw [e4] at e2
  have e3 : some (sizeL (strL x)) = some (1 + ((0 : Nat) : Int)) := e2
  have := Option.some.inj e3
  omega)
theorem chain_break {xs : List V} {i : Nat} {x y : V} (hx : xs[i]? = some x) (hy : xs[i + 1]? = some y) (h : stepV x y = false) : fullV xs = false := by
  refine full_short ?_
  cases xs with
  | nil => rfl
  | cons a r =>
    show (rowV a && chainT (a :: r)) = false
    cases ht : chainT (a :: r) with
    | false => rw [Bool.and_false]
    | true =>
      have := (chainT_iff _).mp ht i x y hx hy
      rw [h] at this
      cases this
section
variable {n m : Nat} {ps : List (Nat × Nat)} (S8 : Steps n m ps)
include S8
theorem size_row {i : Nat} (hi : i < m) : sizeL (rowF n (ps.take (i + 1))) = (i : Int) + 1 := by
  have hl := S8.len
  have h := cnt_rowF n (i + 1) (ps.take (i + 1)) (by rw [List.length_take]; omega) (S8.take _).1 (S8.take _).2
  unfold sizeL
  rw [rowF_len]
  omega
theorem bad_tail : fullV ((rowsV (chF n ps)).drop 1) = false := by
  have m2 := S8.m2
  have e := rowsV_at S8 (show 1 < m by omega)
  cases hd : (rowsV (chF n ps)).drop 1 with
  | nil =>
    have := List.length_drop (i := 1) (l := rowsV (chF n ps))
    rw [hd] at this
    have hl : (rowsV (chF n ps)).length = m := by unfold rowsV; rw [List.length_map, chR_len, S8.len]
    rw [hl] at this
    have z : 0 = m - 1 := this
    omega
  | cons x r =>
    have e2 : ((rowsV (chF n ps)).drop 1)[0]? = some (.str (S (rowF n (ps.take (1 + 1))))) := by rw [List.getElem?_drop]; exact e
    rw [hd] at e2
    have e3 : x = .str (S (rowF n (ps.take (1 + 1)))) := Option.some.inj e2
    refine sizes_head ?_
    rw [e3, strL_S, size_row S8 (show 1 < m by omega)]
    omega
theorem bad_twice {x : V} (hx : (rowsV (chF n ps))[m - 1]? = some x) : fullV (rowsV (chF n ps) ++ [x]) = false := by
  have m2 := S8.m2
  have hl : (rowsV (chF n ps)).length = m := by unfold rowsV; rw [List.length_map, chR_len, S8.len]
  refine chain_break (i := m - 1) (x := x) (y := x) (by rw [List.getElem?_append_left (by omega)]; exact hx) (by rw [List.getElem?_append_right (by omega), hl, show m - 1 + 1 - m = 0 by omega]; rfl) ?_
  show (rowV x && belowL (strL x) (strL x)) = false
  unfold belowL
  rw [decide_eq_false (show ¬ strL x ≠ strL x from fun z => z rfl), Bool.false_and, Bool.and_false, Bool.and_false]
theorem bad_long {a b : List Nat} (h : a.length = b.length) : fullV [.str (S a), .str (S (b ++ [48]))] = false := by
  refine chain_break (i := 0) rfl rfl ?_
  show (rowV _ && belowL (strL (.str (S a))) (strL (.str (S (b ++ [48]))))) = false
  rw [strL_S, strL_S]
  unfold belowL
  have hne : ¬ a.length = (b ++ [48]).length := by
    rw [List.length_append, h]
    show ¬ b.length = b.length + 1
    omega
  rw [decide_eq_false hne, Bool.false_and, Bool.and_false]
end
theorem bad_zeros (n : Nat) : fullV [.str (S (List.replicate n 48))] = false := by
  refine full_short ?_
  show (rowL (S (List.replicate n 48)).cps.toList && _) = false
  have e : rowL (List.replicate n 48) = false := by
    unfold rowL
    rw [decide_eq_false (show ¬ 43 ∈ List.replicate n 48 from fun z => absurd (List.mem_replicate.mp z).2 (by decide)), decide_eq_false (show ¬ 45 ∈ List.replicate n 48 from fun z => absurd (List.mem_replicate.mp z).2 (by decide)), Bool.or_false, Bool.and_false, Bool.and_false]
  rw [show (S (List.replicate n 48)).cps.toList = List.replicate n 48 by simp [S], e]
  rfl
theorem cnt_plus : ∀ n : Nat, cnt 48 (List.replicate n 43) = 0
  | 0 => cnt_nil 48
  | n + 1 => by
    rw [List.replicate_succ, cnt_cons, cnt_plus n, if_neg (by decide)]
    rfl
theorem bad_plus {n : Nat} (h : 2 ≤ n) : fullV [.str (S (List.replicate n 43))] = false := by
  refine sizes_head ?_
  rw [strL_S]
  unfold sizeL
  rw [cnt_plus, List.length_replicate]
  omega
theorem one_full {l : List Nat} (h : rowL l = true) (hs : sizeL l = 1) (h0 : l[0]? ≠ some 48) : fullV (rowsV [l]) = true := by
  have e : (S l).cps.toList = l := by simp [S]
  have c1 : chainV (rowsV [l]) = true := by
    show (rowL (S l).cps.toList && chainT [V.str (S l)]) = true
    rw [e, h]
    rfl
  have c2 : sizesV (rowsV [l]) = upTo (rowsV [l]).length := by
    show [sizeL (strL (.str (S l)))] = [1 + ((0 : Nat) : Int)]
    rw [strL_S, hs]
    rfl
  have c3 : 48 ∉ (strL ((rowsV [l]).getLastD .non)).take (rowsV [l]).length := by
    show 48 ∉ (strL (.str (S l))).take 1
    rw [strL_S]
    cases l with
    | nil => exact List.not_mem_nil
    | cons a r =>
      intro hm
      exact h0 (by rw [← List.mem_singleton.mp (show 48 ∈ [a] from hm)]; rfl)
  unfold fullV
  rw [c1, decide_eq_true c2, decide_eq_false c3]
  rfl
theorem lone_full {n : Nat} (h1 : 1 ≤ n) (h : n ≤ 12) : fullV (rowsV [43 :: List.replicate (n - 1) 48]) = true := by
  refine one_full ?_ ?_ (by rw [List.getElem?_cons_zero]; decide)
  · unfold rowL
    rw [decide_eq_true (by rw [List.length_cons, List.length_replicate]; omega), decide_eq_true (show 43 ∈ 43 :: List.replicate (n - 1) 48 from List.mem_cons_self), Bool.true_or, Bool.and_true, Bool.true_and]
    refine List.all_eq_true.mpr fun c hc => ?_
    rcases List.mem_cons.mp hc with e | e
    · rw [e]
      rfl
    · rw [(List.mem_replicate.mp e).2]
      rfl
  · unfold sizeL
    rw [cnt_cons, cnt_rep, if_neg (by decide), List.length_cons, List.length_replicate]
    omega
theorem first_full {n m : Nat} {ps : List (Nat × Nat)} (S8 : Steps n m ps) (h0 : sgO (ps.take 1) 0 ≠ 48) : fullV (rowsV [rowF n (ps.take 1)]) = true := by
  have m2 := S8.m2
  have mn := S8.mn
  have z := size_row S8 (show 0 < m by omega)
  refine one_full (row_good S8 (show 0 < m by omega)) (by rw [z]; rfl) ?_
  rw [rowF_at _ (by omega)]
  exact fun e => h0 (Option.some.inj e)
end K18
set_option maxHeartbeats 8000000
namespace K18
open PySem PySem.Spec PyProof.Rows L2 HR SX HZ
abbrev nmL : List Str := ["script", "pen", "turn", "places", "chain", "kept", "index", "odd", "heard", "rows", "due", "told", "bad", "one"]
def gI {α : Type} (us ws : List α) : List α := match ws with
  | [a, b] => [b, a]
  | _ => []
def spLaw (K : PySem.W.Frag) (T0 : Addr) : Sp := fun vs H Q _ => ∃ (a : Addr) (ns : List Int), vs = [.ref a] ∧ H T0 = some (.tbl #[]) ∧ SqL K H a (ns.map V.int) ∧ ns.length ≤ 63 ∧ ∀ H', Q (.bl true) H'
section
variable {P : Program} {w : World} {K : PySem.W.Frag} {mg : Str → Option Value} {base : Heap}
theorem full_seq {H : Hp} {p : Addr} {c : List (List Nat)} (hf : fullV (rowsV c) = true) (hl : c.length ≤ 1000) (h : H p = some (.lst (rowsV c)) ∨ H p = some (.tup (rowsV c))) : SeqAtP H p (rowsV c) := by
  refine ⟨h, by unfold rowsV; rw [List.length_map]; exact hl, fun x hx => ?_⟩
  obtain ⟨n, hn, _, hr⟩ := full_rows hf
  obtain ⟨i, hi⟩ := List.getElem?_of_mem hx
  obtain ⟨z, rfl, _, lz, _⟩ := hr i x hi
  refine ⟨.inr (.inr (.inr (.inl ⟨z, rfl⟩))), fun z' e => ?_⟩
  cases e
  have := small1000 (show z.length ≤ 1000 by omega)
  omega
theorem at_m2 {α : Type} {xs : List α} {v : α} (h2 : 2 ≤ xs.length) (h : xs[xs.length - 2]? = some v) : atI xs (-2) = some v := by
  unfold atI ixN
  rw [if_neg (by decide), if_pos (by omega)]
  show xs[(-2 + (xs.length : Int)).toNat]? = some v
  rw [show (-2 + (xs.length : Int)).toNat = xs.length - 2 by omega]
  exact h
theorem okv_seq {H : Hp} {p : Addr} {xs : List V} (h : SeqAtP H p xs) : OKV H (.ref p) := ⟨.inr (.inr (.inr (.inr ⟨p, rfl, h.1.elim (fun z => .inl ⟨_, z⟩) (fun z => .inr (.inl ⟨_, z⟩))⟩))), fun z e => by cases e⟩
/-- a member of a list that is no d-chain -/
def ElV (H : Hp) (g : Addr) (y : V) : Prop := (∃ i, y = .int i) ∨ (∃ z, y = .str z ∧ z.length ≤ sizeLine) ∨ ∃ q xs, y = .ref q ∧ q ≠ g ∧ H q = some (.lst xs)
theorem ElV.kp {H H' : Hp} {g : Addr} {y : V} (a : ElV H g y) (k : HG.Kp g H H') : ElV H' g y := by
  rcases a with a | a | ⟨q, xs, e, n, h⟩
  · exact .inl a
  · exact .inr (.inl a)
  · exact .inr (.inr ⟨q, xs, e, n, k _ _ n h⟩)
theorem ElV.okv {H : Hp} {g : Addr} {y : V} (a : ElV H g y) : OKV H y := by
  rcases a with ⟨i, rfl⟩ | ⟨z, rfl, hz⟩ | ⟨q, xs, rfl, _, h⟩
  · exact ⟨.inl ⟨i, rfl⟩, fun z e => by cases e⟩
  · exact ⟨.inr (.inr (.inr (.inl ⟨z, rfl⟩))), fun z' e => by cases e; exact hz⟩
  · exact ⟨.inr (.inr (.inr (.inr ⟨q, rfl, .inl ⟨xs, h⟩⟩))), fun z e => by cases e⟩
/-- a value that is no d-chain -/
def OddC (H : Hp) (g : Addr) (x : V) : Prop := x = .non ∨ (∃ z, x = .str z ∧ z.length ≤ sizeLine) ∨ ∃ q, x = .ref q ∧ q ≠ g ∧ ((∃ k, H q = some (.dK k)) ∨ ∃ xs, H q = some (.lst xs) ∧ xs.length ≤ 1000 ∧ (∀ y ∈ xs, ElV H g y) ∧ fullV xs = false)
theorem OddC.kp {H H' : Hp} {g : Addr} {x : V} (a : OddC H g x) (k : HG.Kp g H H') : OddC H' g x := by
  rcases a with a | a | ⟨p, e, n, ⟨d, h⟩ | ⟨xs, h, l, hy, hb⟩⟩
  · exact .inl a
  · exact .inr (.inl a)
  · exact .inr (.inr ⟨p, e, n, .inl ⟨d, k _ _ n h⟩⟩)
  · exact .inr (.inr ⟨p, e, n, .inr ⟨xs, k _ _ n h, l, fun y h2 => (hy y h2).kp k, hb⟩⟩)
theorem kp_grow {H H' : Hp} {g : Addr} (k : Grow H H') : HG.Kp g H H' := fun p o _ h => k p o h
theorem OddC.okv {H : Hp} {g : Addr} {x : V} (a : OddC H g x) : OKV H x := by
  rcases a with rfl | ⟨z, rfl, hz⟩ | ⟨p, rfl, _, ⟨d, h⟩ | ⟨xs, h, _, _, _⟩⟩
  · exact ⟨.inr (.inl rfl), fun z e => by cases e⟩
  · exact ⟨.inr (.inr (.inr (.inl ⟨z, rfl⟩))), fun z' e => by cases e; exact hz⟩
  · exact ⟨.inr (.inr (.inr (.inr ⟨p, rfl, .inr (.inr ⟨d, h⟩)⟩))), fun z e => by cases e⟩
  · exact ⟨.inr (.inr (.inr (.inr ⟨p, rfl, .inl ⟨xs, h⟩⟩))), fun z e => by cases e⟩
theorem OddC.bad {H : Hp} {g : Addr} {x : V} (a : OddC H g x) : gFull H x false := by
  rcases a with rfl | ⟨z, rfl, _⟩ | ⟨p, rfl, _, ⟨d, h⟩ | ⟨xs, h, l, hy, hb⟩⟩
  · exact .inl ⟨(fun ⟨_, _, e, _⟩ => nomatch e), rfl⟩
  · exact .inl ⟨(fun ⟨_, _, e, _⟩ => nomatch e), rfl⟩
  · refine .inl ⟨(fun ⟨q, _, e, h2⟩ => ?_), rfl⟩
    cases e
    rw [h] at h2
    rcases h2 with h2 | h2 <;> cases h2
  · exact .inr ⟨p, xs, rfl, ⟨.inl h, l, fun y h2 => (hy y h2).okv⟩, hb.symm⟩
theorem odd_l {H : Hp} {g p : Addr} {xs : List V} (n : p ≠ g) (h : H p = some (.lst xs)) (l : xs.length ≤ 1000) (hy : ∀ y ∈ xs, ElV H g y) (hb : fullV xs = false) : OddC H g (.ref p) :=
  .inr (.inr ⟨p, rfl, n, .inr ⟨xs, h, l, hy, hb⟩⟩)
theorem el_rows {H : Hp} {g : Addr} {n : Nat} {c : List (List Nat)} (h : ∀ l ∈ c, l.length = n ∧ l.all sgn = true) (hn : n ≤ 12) : ∀ y ∈ rowsV c, ElV H g y := fun y hy => by
  obtain ⟨l, hl, rfl⟩ := List.mem_map.mp (show y ∈ c.map fun l => V.str (S l) from hy)
  refine .inr (.inl ⟨_, rfl, ?_⟩)
  rw [S_len, (h l hl).1, sizeLine_eq]
  omega
theorem el_one {H : Hp} {g : Addr} {a : V} (h : ElV H g a) : ∀ y ∈ [a], ElV H g y := fun y hy => by
  rw [List.mem_singleton.mp hy]
  exact h
theorem el_app {H : Hp} {g : Addr} {xs ys : List V} (h1 : ∀ y ∈ xs, ElV H g y) (h2 : ∀ y ∈ ys, ElV H g y) : ∀ y ∈ xs ++ ys, ElV H g y := fun y hy => (List.mem_append.mp hy).elim (h1 y) (h2 y)
theorem gau_grow {H H' : Hp} {g c : Addr} {ns : List Int} {a r : Int} (G : HD.Gau H g c ns a r) (k : Grow H H') : HD.Gau H' g c ns a r := ⟨k _ _ G.g, k _ _ G.c, G.a0, G.r0, G.len⟩
theorem any_pv {H : Hp} {g : Addr} {v : V} (a : HD.AnyV H g v) : PV H v := by
  rcases a with a | a | a | a | ⟨p, e, _, b⟩
  · exact .inl a
  · exact .inr (.inl a)
  · exact .inr (.inr (.inl a))
  · exact .inr (.inr (.inr (.inl a)))
  · exact .inr (.inr (.inr (.inr ⟨p, e, b⟩)))
theorem take_one {α : Type} {xs : List α} {x : α} (h : xs[0]? = some x) : xs.take 1 = [x] := by
  cases xs with
  | nil => cases h
  | cons a r =>
    rw [Option.some.inj h]
    rfl
theorem OddC.ext {H H' : Hp} {g : Addr} {x : V} (a : OddC H g x) (k : LamX.ExtN H H') : OddC H' g x := by
  rcases a with a | a | ⟨p, e, n, ⟨d, h⟩ | ⟨xs, h, l, hy, hb⟩⟩
  · exact .inl a
  · exact .inr (.inl a)
  · exact .inr (.inr ⟨p, e, n, .inl ⟨d, k _ _ h fun _ z => (nomatch z)⟩⟩)
  · refine .inr (.inr ⟨p, e, n, .inr ⟨xs, k _ _ h fun _ z => (nomatch z), l, fun y h2 => ?_, hb⟩⟩)
    rcases hy y h2 with a | a | ⟨q, xs, e, n, h⟩
    · exact .inl a
    · exact .inr (.inl a)
    · exact .inr (.inr ⟨q, xs, e, n, k _ _ h fun _ z => (nomatch z)⟩)
theorem any_ext {H H' : Hp} {g : Addr} {v : V} (a : HD.AnyV H g v) (k : LamX.ExtN H H') : HD.AnyV H' g v := by
  rcases a with a | a | a | a | ⟨p, e, n, ⟨x, h⟩ | ⟨x, h⟩ | ⟨x, h⟩⟩
  · exact .inl a
  · exact .inr (.inl a)
  · exact .inr (.inr (.inl a))
  · exact .inr (.inr (.inr (.inl a)))
  · exact .inr (.inr (.inr (.inr ⟨p, e, n, .inl ⟨x, k _ _ h fun _ z => (nomatch z)⟩⟩)))
  · exact .inr (.inr (.inr (.inr ⟨p, e, n, .inr (.inl ⟨x, k _ _ h fun _ z => (nomatch z)⟩)⟩)))
  · exact .inr (.inr (.inr (.inr ⟨p, e, n, .inr (.inr ⟨x, k _ _ h fun _ z => (nomatch z)⟩)⟩)))
theorem gau_ext {H H' : Hp} {g c : Addr} {ns : List Int} {a r : Int} (G : HD.Gau H g c ns a r) (k : LamX.ExtN H H') : HD.Gau H' g c ns a r := ⟨k _ _ G.g fun _ z => (nomatch z), k _ _ G.c fun _ z => (nomatch z), G.a0, G.r0, G.len⟩
theorem ext_grow {H H' H'' : Hp} (k : LamX.ExtN H H') (g : Grow H' H'') : LamX.ExtN H H'' := fun p o h n => g _ _ (k p o h n)
theorem ext_trans {H H' H'' : Hp} (k : LamX.ExtN H H') (g : LamX.ExtN H' H'') : LamX.ExtN H H'' := fun p o h n => g p o (k p o h n) n
/-- what is told is heard -/
theorem des_told {CN CC CM cls : Addr} {Q : VK} {E : XK} {word : Str} {v : V} {H : Hp} (hE : ∀ cls d H', Des CN CC CM Q cls d H' → E cls d H') (hk : Kind CN CC CM (.ref cls) word) (h : ∀ H'' t, Grow H H'' → H'' t = some (.tup [.str word, v]) → Q (.ref t) H'') : ∀ H', Grow H H' → HX.Told E cls H' v :=
  fun H' g' d HE k _ hd => hE _ _ _ ⟨word, v, d, hk, rfl, hd, fun H'' t g2 ht => h H'' t ((Grow.trans g' k).trans g2) ht⟩
/-- an answer of beyond, as it stands in the heap -/
def Ans (H : Hp) (o : Option (List (List Nat))) (v : V) : Prop := match o with
  | none => v = .non
  | some d => ∃ t, v = .ref t ∧ H t = some (.tup (rowsV d))
theorem Ans.grow {H H' : Hp} {o : Option (List (List Nat))} {v : V} (a : Ans H o v) (g : Grow H H') : Ans H' o v := by
  cases o with
  | none => exact a
  | some d =>
    obtain ⟨t, e, h⟩ := a
    exact ⟨t, e, g _ _ h⟩
def dueD : Option (List (List Nat)) → PyData
  | none => .none
  | some d => .tuple (rowsD d)
theorem Ans.dp {K : PySem.W.Frag} {H : Hp} {o : Option (List (List Nat))} {v : V} (a : Ans H o v) : Dp K H v (dueD o) := by
  cases o with
  | none =>
    have e : v = .non := a
    rw [e]
    exact .non
  | some d =>
    obtain ⟨t, e, h⟩ := a
    rw [e]
    exact .tup (SqT.of h) (dp_rows d)
theorem bey_good {CC CN CM : Addr} {H : Hp} {p : Addr} {c : List (List Nat)} {i : Nat} {Q : VK} {E : XK} (sq : SeqAtP H p (rowsV c)) (full : fullV (rowsV c) = true) (hi : i < c.length) (h2 : 2 ≤ c.length) (h : ∀ v H', Grow H H' → Ans H' (beyC c i) v → Q v H') : spBey CC CN CM [.ref p, .int (i : Nat)] H Q E :=
  ⟨.ref p, .int (i : Nat), rfl, okv_seq sq, .inl ⟨_, rfl⟩, .inr ⟨p, c, rfl, sq, full, .inr ⟨i, rfl, hi, .inr ⟨h2, fun e H' g => h .non H' g (by rw [e]; rfl), fun d e H' t g ht => h (.ref t) H' g (by rw [e]; exact ⟨t, rfl, ht⟩)⟩⟩⟩⟩
/-- the tables stay when the pen moves -/
theorem tabs_kp {Tt : List (Addr × Str)} {g : Addr} {xs : List V} {H H' : Hp} (t : LamX.Tabs Tt H) (k : HG.Kp g H H') (hg : H g = some (.lst xs)) : LamX.Tabs Tt H' := fun p hp => by
  obtain ⟨qs, h1, h2, h3⟩ := t p hp
  have n1 : p.1 ≠ g := fun z => by
    rw [z, hg] at h1
    cases h1
  refine ⟨qs, k _ _ n1 h1, h2, fun pos cv hc => ?_⟩
  obtain ⟨c, e1, e2⟩ := h3 pos cv hc
  refine ⟨c, e1, k _ _ (fun z => ?_) e2⟩
  rw [z, hg] at e2
  have e3 : HO.lst xs = LamX.CodeO g p.2 := Option.some.inj e2
  unfold LamX.CodeO at e3
  cases e3
theorem fn_gc0 {k : Nat} {f : Addr} {fd : FuncData} {ps : List Str} {sp : Sp} {x qual : Str} {st : Stmt} {N : List Str} {cv : Value} (F : Fun K x qual st f fd) (known : fd.code = cv) (S : FnScope N ps (defScope st)) (len : ∀ vs H Q E, sp vs H Q E → vs.length = ps.length)
    (hb : ∀ (A : Around) (ou : List Env) (s : Shared) (H : Hp) (vs : List V) (Q : VK) (E : XK), (A.deeper (envOfC qual (defScope st) s.heap.objs.size f cv)).guards = some [] →
      Room k (A.deeper (envOfC qual (defScope st) s.heap.objs.size f cv)) → sp vs H Q E →
      ∃ t, PSs (cxOf CX0 P w K mg base N qual (defScope st) f cv A ou s H E).nox (defBody st) t ∧ t { nx := fun _ H' => Q .non H', rt := Q } (start N vs) H) :
    HG.FnG P w K mg base CX0 (k + 1) f fd ps sp := by
  apply HT0.fn_gc F known S len
  intro A ou s H vs Q E g r q
  obtain ⟨t, h1, h2⟩ := hb A ou s H vs Q E g r q
  exact ⟨t, PSs.nox h1, h2⟩
theorem ok_law (T : HG.Tp K mg "law" s_law ["script"]) {c0 T0 : Addr} (known : T.fd.code = .ref c0) (TH : HG.Tp K mg "_law_heard" s__law_heard ["ask"]) (e_BadNumber : HX.Er P w K mg base "BadNumber") (e_BadChain : HX.Er P w K mg base "BadChain") (e_Misfit : HX.Er P w K mg base "Misfit") {S0 : Addr} (m_StairError : mg "StairError" = some (.ref S0))
    (xN : PySem.W.exmOne K (.ref e_BadNumber.C) (.ref S0) = some true) (xC : PySem.W.exmOne K (.ref e_BadChain.C) (.ref S0) = some true) (xM : PySem.W.exmOne K (.ref e_Misfit.C) (.ref S0) = some true) (kits : Kits K e_BadNumber.C e_BadChain.C e_Misfit.C)
    (o_beyond : HG.Df P w K mg base (L2.CX P w) 7 "beyond" ["chain", "index"] (spBey e_BadChain.C e_BadNumber.C e_Misfit.C)) (kb : KBn K o_beyond.fd ["chain", "index"] 0 ["index", "chain"] gI gI)
    (o__law_pen : HG.Df P w K mg base CX0 1 "_law_pen" ["script"] (HD.spGauge K)) (o__law_draw : HG.Df P w K mg base CX0 1 "_law_draw" ["pen", "many"] HD.spDraw) (o__law_one_of : HG.Df P w K mg base CX0 2 "_law_one_of" ["pen", "some"] (HD.spOne K))
    (o__law_full : HG.Df P w K mg base CX0 3 "_law_full" ["pen", "places", "many"] spDFull) (o__law_others : HG.Df P w K mg base CX0 1 "_law_others" ["chain", "index"] spOth) (TB : LamX.TabB base mg c0 T0)
    (m_range : mg "range" = none) (m_repr : mg "repr" = none) (m_tuple : mg "tuple" = none) (m_len : mg "len" = none) (m_isinstance : mg "isinstance" = none) : HG.FnG P w K mg base CX0 10 T.f T.fd ["script"] (spLaw K T0) := by
  refine fn_gc0 T.F known sc_law (fun vs H Q E h => ?_) (fun A outer s H vs Q E hg hr h => ?_)
  · obtain ⟨a, ns, rfl, _⟩ := h
    rfl
  · obtain ⟨a, ns, rfl, hT0, hS, hlen, q⟩ := h
    obtain ⟨oc, od, kV, doc, pm, an, cdv, ct, osl, eTH, lkH0, hcH⟩ := TH.F.ex
    have lkH := lkH0
    rw [eTH] at lkH
    have hbH := TH.b
    rw [eTH] at hbH
    let X := (cxOf CX0 P w K mg base nmL "law" (defScope s_law) T.f (.ref c0) A outer s H E).nox
    have hG : HL.GiveL X nmH "_law_heard" (defScope s__law_heard) TH.f cdv (defBody s__law_heard) "ask" (HL.lq X) (TTh e_BadNumber.C e_BadChain.C e_Misfit.C) := heard_gives (X := X) rfl m_StairError e_BadNumber e_BadChain e_Misfit xN xC xM kits m_isinstance m_len
    have uT : ∀ p ∈ [(T0, HL.lq X)], p.1 = T0 → p.2 = HL.lq X := fun p hp _ => by rw [List.mem_singleton.mp hp]
    have scH : FnScope nmH ["ask"] (defScope s__law_heard) := sc__law_heard
    refine ⟨_, (pss_cons (ps_set (i := 1) sc_law.nd rfl (.inl rfl) (HG.pe_c o__law_pen hr (pa_cons (pv 0) pa_nil)))
    (pss_cons (ps_for PassesOwn.never rfl (pi_range1 rfl m_range (pa_cons pe_int pa_nil)) (pg_name (i := 2) sc_law.nd rfl (Or.inl rfl))
      (pss_cons (ps_set (i := 3) sc_law.nd rfl (.inl rfl) (HG.pe_c o__law_one_of hr (pa_cons (pv 1) (pa_cons (pe_lst (pa_cons pe_int (pa_cons pe_int (pa_cons pe_int (pa_cons pe_int (pa_cons pe_int (pa_cons pe_int pa_nil))))))) pa_nil))))
      (pss_cons (ps_set (i := 4) sc_law.nd rfl (.inr rfl) (HG.pe_c o__law_full hr (pa_cons (pv 1) (pa_cons (pv 3) (pa_cons (pe_op op_add pe_int (HG.pe_c o__law_draw hr (pa_cons (pv 1) (pa_cons (pe_op op_sub (pv 3) pe_int) pa_nil)))) pa_nil)))))
      (pss_cons (ps_set (i := 5) sc_law.nd rfl (.inl rfl) (pe_callB (HG.call_repr hg hr.units) (by rfl) m_repr (by decide +kernel) (pa_cons (pv 4) pa_nil)))
      (pss_cons (ps_for PassesOwn.never rfl (pi_range1 rfl m_range (pa_cons (pe_callB call_len_seq (by rfl) m_len PySem.boot_len (pa_cons (pv 4) pa_nil)) pa_nil)) (pg_name (i := 6) sc_law.nd rfl (Or.inl rfl))
        (pss_cons (ps_set (i := 9) sc_law.nd rfl (.inl rfl) (HG.pe_c o__law_others hr (pa_cons (pv 4) (pa_cons (pv 6) pa_nil))))
        (Evl.pss_cut (ps_set (i := 10) sc_law.nd rfl (.inl rfl) (pe_ifExp (pt_cmpR (op_neD hr.units) (pv 9) (pe_lst pa_nil) (nomark _)) (pe_callTy call_tuple_of (by rfl) m_tuple (by decide +kernel) (pa_cons (pe_op op_cat (pe_op op_cat (pe_slice sl_list (pv 4) po_none (po_some (pv 6))) (pv 9)) (pe_slice sl_list (pv 4) (po_some (pe_op op_add (pv 6) pe_int)) po_none)) pa_nil)) pe_non))
        (pss_cons (ps_set (i := 11) sc_law.nd rfl (.inl rfl) (HG.pe_cL o_beyond hr (pa_cons (pv 4) (pa_cons (pv 6) pa_nil))))
        (pss_cons (ps_if (PW.pt (pw_or (pt_cmpR op_gt (pe_callB call_len_seq (by rfl) m_len PySem.boot_len (pa_cons (pv 9) pa_nil)) pe_int (nomark _)) (pw_or (pt_cmpR op_ne (pe_callB (HG.call_repr hg hr.units) (by rfl) m_repr (by decide +kernel) (pa_cons (pe_lst (pa_cons (pv 11) (pa_cons (HG.pe_cKL0 o_beyond kb hr (pk_cons (pv 6) (pk_cons (pe_callTy call_tuple_of (by rfl) m_tuple (by decide +kernel) (pa_cons (pv 4) pa_nil)) pk_nil))) pa_nil))) pa_nil)) (pe_callB (HG.call_repr hg hr.units) (by rfl) m_repr (by decide +kernel) (pa_cons (pe_lst (pa_cons (pv 10) (pa_cons (pv 10) pa_nil))) pa_nil)) (nomark _)) (pw_or1 (pt_cmpR op_ne (pe_callB (HG.call_repr hg hr.units) (by rfl) m_repr (by decide +kernel) (pa_cons (pv 4) pa_nil)) (pv 5) (nomark _))))))
          (pss_one (ps_ret pe_bl))
          pss_nil)
        (pss_cons (ps_if (PW.pt (pw_and (pt_cmpR op_notN (pv 11) pe_non (nomark _)) (pw_and1 (pt_cmpR (op_neD hr.units) (HG.pe_cL o_beyond hr (pa_cons (pv 11) (pa_cons (pv 6) pa_nil))) (pe_callTy call_tuple_of (by rfl) m_tuple (by decide +kernel) (pa_cons (pv 4) pa_nil)) (nomark _)))))
          (pss_one (ps_ret pe_bl))
          pss_nil)
        (pss_one (ps_if (pt_cmpR op_ne (pe_cmpR op_isN (pv 11) pe_non (nomark _)) (pe_and (pe_cmpR op_eq (pv 6) (pe_op op_sub (pe_callB call_len_seq (by rfl) m_len PySem.boot_len (pa_cons (pv 4) pa_nil)) pe_int) (nomark _)) (pe_one (pe_cmpR op_eq (pe_ix ix_str (pe_ix ix_list (pv 4) (pe_un un_neg pe_int) (fun _ _ => rfl)) (pv 6) (fun _ _ => rfl)) pe_str (nomark _)))) (nomark _))
          (pss_one (ps_ret pe_bl))
          pss_nil))))))))
      (pss_cons (ps_set (i := 7) sc_law.nd rfl (.inr rfl) (HG.pe_c o__law_one_of hr (pa_cons (pv 1) (pa_cons (pe_lst (pa_cons pe_non (pa_cons (pe_lst pa_nil) (pa_cons pe_str (pa_cons (pe_lst (pa_cons pe_int pa_nil)) (pa_cons (pe_slice sl_list (pv 4) (po_some pe_int) po_none) (pa_cons (pe_op op_cat (pv 4) (pe_lst (pa_cons (pe_ix ix_list (pv 4) (pe_un un_neg pe_int) (fun _ _ => rfl)) pa_nil))) (pa_cons (pe_lst (pa_cons (pe_op op_mul_str pe_str (pv 3)) pa_nil)) (pa_cons (pe_lst (pa_cons (pe_op op_mul_str pe_str (pv 3)) pa_nil)) (pa_cons pe_dnewK (pa_cons (pe_lst (pa_cons (pv 4) pa_nil)) (pa_cons (pe_lst (pa_cons (pe_ix ix_list (pv 4) pe_int (fun _ _ => rfl)) (pa_cons (pe_op op_add_str (pe_ix ix_list (pv 4) pe_int (fun _ _ => rfl)) pe_str) pa_nil))) pa_nil)))))))))))) pa_nil))))
      (Evl.pss_cut (ps_asg (pe_tup (pa_cons (HG.pe_c o__law_one_of hr (pa_cons (pv 1) (pa_cons (pe_lst (pa_cons pe_non (pa_cons (pe_un un_neg pe_int) (pa_cons (pe_callB call_len_seq (by rfl) m_len PySem.boot_len (pa_cons (pv 4) pa_nil)) (pa_cons pe_bl (pa_cons pe_str (pa_cons (pe_lst (pa_cons pe_int pa_nil)) (pa_cons (pe_op op_pow pe_int pe_int) pa_nil)))))))) pa_nil))) (pa_cons (pe_ifExp (pt_cmpR op_ne (pe_ix ix_str (pe_ix ix_list (pv 4) pe_int (fun _ _ => rfl)) pe_int (fun _ _ => rfl)) pe_str (nomark _)) (pe_slice sl_list (pv 4) po_none (po_some pe_int)) (pe_lst (pa_cons (pe_op op_add_str pe_str (pe_op op_mul_str pe_str (pe_op op_sub (pv 3) pe_int))) pa_nil))) pa_nil))) (pg_tup rfl (pgs_cons (pg_name (i := 12) sc_law.nd rfl (Or.inr rfl)) (pgs_cons (pg_name (i := 13) sc_law.nd rfl (Or.inr rfl)) pgs_nil))))
      (pss_cons (ps_set (i := 8) sc_law.nd rfl (.inl rfl) (pe_lst (pa_cons (HL.pe_lam0 (T := [(T0, HL.lq X)]) (k := 7) (by rfl) TH.m TH.F.kp lkH hcH hbH scH rfl (Or.inl rfl) hG TB rfl (List.mem_singleton.mpr rfl) uT hr (LamX.lamS_by (by show LamX.lamSB (defScope s_law) _ = true; decide +kernel)) rfl (fun _ _ _ _ _ => rfl) (fun A outer s H E f c' hr2 => HG.pe_cS o_beyond hr2 (takes_of rfl rfl rfl rfl) (pa_cons (pv 7) (pa_cons (pv 12) pa_nil))))
        (pa_cons (HL.pe_lamD (T := [(T0, HL.lq X)]) (d := "a1") (k := 7) (by rfl) TH.m TH.F.kp lkH hcH hbH scH rfl (Or.inl rfl) hG TB rfl (List.mem_singleton.mpr rfl) uT hr (HL.lamD_by (by show HL.lamDB (defScope s_law) _ _ = true; decide +kernel)) (by show ("a1" : Str) ∉ nmL; decide +kernel) rfl rfl (fun _ _ _ _ _ _ _ _ => ⟨_, rfl, rfl⟩) (fun A outer s H E f c' hr2 => HG.pe_cS o_beyond hr2 (takes_of rfl rfl rfl rfl) (pa_cons (pv 4) (pa_cons (pv 12) pa_nil))))
        (pa_cons (HL.pe_lamD (T := [(T0, HL.lq X)]) (d := "a2") (k := 7) (by rfl) TH.m TH.F.kp lkH hcH hbH scH rfl (Or.inl rfl) hG TB rfl (List.mem_singleton.mpr rfl) uT hr (HL.lamD_by (by show HL.lamDB (defScope s_law) _ _ = true; decide +kernel)) (by show ("a2" : Str) ∉ nmL; decide +kernel) rfl rfl (fun _ _ _ _ _ _ _ _ => ⟨_, rfl, rfl⟩) (fun A outer s H E f c' hr2 => HG.pe_cS o_beyond hr2 (takes_of rfl rfl rfl rfl) (pa_cons (pv 13) (pa_cons pe_int pa_nil))))
        (pa_cons (HL.pe_lamD (T := [(T0, HL.lq X)]) (d := "a3") (k := 7) (by rfl) TH.m TH.F.kp lkH hcH hbH scH rfl (Or.inl rfl) hG TB rfl (List.mem_singleton.mpr rfl) uT hr (HL.lamD_by (by show HL.lamDB (defScope s_law) _ _ = true; decide +kernel)) (by show ("a3" : Str) ∉ nmL; decide +kernel) rfl rfl (fun _ _ _ _ _ _ _ _ => ⟨_, rfl, rfl⟩) (fun A outer s H E f c' hr2 => HG.pe_cS o_beyond hr2 (takes_of rfl rfl rfl rfl) (pa_cons (pv 13) (pa_cons pe_int pa_nil))))
        pa_nil))))))
      (pss_one (ps_if (pt_cmpR (op_neD hr.units) (pv 8) (pe_lst (pa_cons (pe_tup (pa_cons pe_str (pa_cons pe_str pa_nil))) (pa_cons (pe_tup (pa_cons pe_str (pa_cons pe_str pa_nil))) (pa_cons (pe_tup (pa_cons pe_str (pa_cons pe_str pa_nil))) (pa_cons (pe_tup (pa_cons pe_str (pa_cons pe_str pa_nil))) pa_nil))))) (nomark _))
        (pss_one (ps_ret pe_bl))
        pss_nil))))))))))
    (pss_one (ps_ret pe_bl)))), ?_⟩
    have sz := sizeLine_eq
    refine ⟨_, rfl, a, ns, rfl, hS, hlen, fun g c ms H1 ng nc G k1 => ?_⟩
    have tb0 : LamX.Tabs [(T0, HL.lq X)] H1 := fun p hp => by
      rw [List.mem_singleton.mp hp]
      exact LamX.TabS.nil (k1 _ _ hT0)
    refine ⟨4, rfl, by decide, by decide, for_range (n := 4) (fun i σ H2 => ∃ y2 y3 y4 y5 y6 y7 y8 y9 y10 y11 y12 y13, σ = [some (.ref a), some (.ref g), y2, y3, y4, y5, y6, y7, y8, y9, y10, y11, y12, y13] ∧ ∃ at_ r, HD.Gau H2 g c ms at_ r ∧ at_ ≤ 100 * i ∧ LamX.Tabs [(T0, HL.lq X)] H2)
      ⟨none, none, none, none, none, none, none, none, none, none, none, none, rfl, 0, 0, G, by omega, tb0⟩ ?_ ?_⟩
    · rintro i σ H2 hi ⟨y2, y3, y4, y5, y6, y7, y8, y9, y10, y11, y12, y13, rfl, at_, r, G2, ha, tb2⟩
      -- places
      refine ⟨_, rfl, by show 6 ≤ sizeLine; decide, fun l1 nl1 => ?_⟩
      have lg : l1 ≠ g := (ne_of_none G2.g nl1).symm
      refine ⟨g, c, ms, at_, r, l1, _, rfl, G2.new nl1, by omega, lg, SqL.of upd_same, by simp, by simp, fun x a3 r3 H3 hx ha3 G3 k3 => ?_⟩
      have tb3 : LamX.Tabs [(T0, HL.lq X)] H3 := tabs_kp (tabs_kp tb2 (HG.Kp.new nl1) G2.g) k3 (HD.stay nl1 G2.g)
      obtain ⟨n, hn2, hn12, rfl⟩ : ∃ n : Nat, 2 ≤ n ∧ n ≤ 12 ∧ x = .int (n : Nat) := by
        rcases List.mem_cons.mp hx with e | hx
        · exact ⟨3, by decide, by decide, e⟩
        rcases List.mem_cons.mp hx with e | hx
        · exact ⟨2, by decide, by decide, e⟩
        rcases List.mem_cons.mp hx with e | hx
        · exact ⟨4, by decide, by decide, e⟩
        rcases List.mem_cons.mp hx with e | hx
        · exact ⟨6, by decide, by decide, e⟩
        rcases List.mem_cons.mp hx with e | hx
        · exact ⟨12, by decide, by decide, e⟩
        rcases List.mem_cons.mp hx with e | hx
        · exact ⟨9, by decide, by decide, e⟩
        exact absurd hx List.not_mem_nil
      -- chain
      refine ⟨_, rfl, _, rfl, _, rfl, _, rfl, _, _, rfl, rfl, g, c, ms, a3, r3, _, rfl, G3, by omega, by omega, by omega, fun d a4 r4 H4 d0 d1 ha4 G4 k4 => ?_⟩
      obtain ⟨m, hm⟩ : ∃ m : Nat, 2 + d = (m : Int) := ⟨(2 + d).toNat, by omega⟩
      refine ⟨_, _, rfl, rfl, ?_⟩
      dsimp only
      rw [hm]
      refine ⟨g, c, ms, a4, r4, n, m, rfl, G4, by omega, by omega, by omega, hn12, fun p ps a5 r5 H5 S8 ha5 G5 k5 np hp => ?_⟩
      have tb5 : LamX.Tabs [(T0, HL.lq X)] H5 := tabs_kp (tabs_kp tb3 k4 G3.g) k5 G4.g
      have png : p ≠ g := (ne_of_none G4.g np).symm
      have m2 := S8.m2
      have mn := S8.mn
      have hl8 := S8.len
      have lc : (chF n ps).length = m := by rw [chR_len, hl8]
      have full := full_chF S8
      have rowsK : ∀ l ∈ chF n ps, l.length = n ∧ l.all sgn = true := by
        obtain ⟨n', h1, h2, h3, h4⟩ := rows_full full
        intro l hl
        obtain ⟨k, hk⟩ := List.getElem?_of_mem hl
        have hkl := (List.getElem?_eq_some_iff.mp hk).1
        rw [lc] at hkl
        rw [chR_at n ps [] k (by omega)] at hk
        refine ⟨?_, (h4 l hl).2⟩
        rw [← Option.some.inj hk, rowF_len]
      have shK : ∀ l ∈ chF n ps, l.all sgn = true ∧ l.length ≤ 12 := fun l hl => ⟨(rowsK l hl).2, by rw [(rowsK l hl).1]; exact hn12⟩
      have shown := shows_list shK (by omega)
      have len2 : (rowsV (chF n ps)).length = m := by unfold rowsV; rw [List.length_map, lc]
      -- kept
      refine ⟨_, rfl, .ref p, .list (rowsD (chF n ps)), rfl, .lst (SqL.of hp) (dp_rows _), shown.s, shown.n, shown.p, shown.z, ?_⟩
      -- each index
      refine ⟨_, rfl, p, _, rfl, .inl (SqL.of hp), _, rfl, by omega, by omega, ?_⟩
      rw [len2]
      have hn' : ((m : Int)).toNat = m := by omega
      rw [hn']
      have sq5 : ∀ {H' : Hp}, Grow H5 H' → SeqAtP H' p (rowsV (chF n ps)) := fun {H'} g6 => full_seq full (by omega) (.inl (g6 _ _ hp))
      refine for_range (n := m) (fun j σ H6 => ∃ z6 z9 z10 z11, σ = [some (.ref a), some (.ref g), some (.int (0 + (i : Nat))), some (.int (n : Nat)), some (.ref p), some (.str (PyData.list (rowsD (chF n ps))).shown), z6, y7, y8, z9, z10, z11, y12, y13] ∧ Grow H5 H6)
        ⟨y6, y9, y10, y11, rfl, Grow.refl⟩ ?_ ?_
      · rintro j σ H6 hj ⟨z6, z9, z10, z11, rfl, g6⟩
        have hp6 := g6 _ _ hp
        have ej : (0 + (j : Int)) = ((j : Nat) : Int) := by omega
        rw [ej]
        -- rows
        refine ⟨_, rfl, _, rfl, p, chF n ps, j, n, rfl, hp6, by omega, by omega, by omega, fun l hl => (rowsK l hl).1, fun l H7 g7 nl hl => ?_⟩
        rw [others_eq S8 hj] at hl
        have g57 := g6.trans g7
        obtain ⟨rs, hrs⟩ : ∃ rs, rs = (rowB (chF n ps) j).toList := ⟨_, rfl⟩
        rw [← hrs] at hl
        have hres : (beyC (chF n ps) j = none ∧ rs = [] ∧ j + 1 = m ∧ sgO (ps.take j) j = 48) ∨
            (∃ qs r, beyC (chF n ps) j = some (chF n qs) ∧ rs = [r] ∧ chF n qs = (chF n ps).take j ++ r :: (chF n ps).drop (j + 1) ∧ Steps n m qs ∧ beyC (chF n qs) j = some (chF n ps) ∧ ¬ (j + 1 = m ∧ sgO (ps.take j) j = 48)) := by
          rcases beyond_steps S8 hj with ⟨hb, hrb, hjm, h48⟩ | ⟨qs, hb, Sq, hb', hnot⟩
          · exact .inl ⟨hb, by rw [hrs, hrb]; rfl, hjm, h48⟩
          · have hb2 : (rowB (chF n ps) j).map (fun r => (chF n ps).take j ++ r :: (chF n ps).drop (j + 1)) = some (chF n qs) := hb
            cases hr : rowB (chF n ps) j with
            | none =>
              rw [hr] at hb2
              cases hb2
            | some r =>
              rw [hr] at hb2
              exact .inr ⟨qs, r, hb, by rw [hrs, hr]; rfl, (Option.some.inj hb2).symm, Sq, hb', hnot⟩
        have rs1 : rs.length ≤ 1 := by
          rcases hres with ⟨_, e, _⟩ | ⟨_, _, _, e, _⟩
          · rw [e]
            exact Nat.zero_le _
          · rw [e]
            exact Nat.le_refl 1
        have rsK : ∀ x ∈ rs, x.all sgn = true := by
          rcases hres with ⟨_, e, _⟩ | ⟨qs, r, _, e, e2, Sq, _⟩
          · rw [e]
            exact fun _ h => absurd h List.not_mem_nil
          · rw [e]
            intro x hx
            obtain ⟨_, _, _, _, h4⟩ := rows_full (full_chF Sq)
            exact (h4 x (by rw [e2, List.mem_singleton.mp hx]; exact List.mem_append_right _ List.mem_cons_self)).2
        have shD : HE.Shows (.list [dueD (beyC (chF n ps) j), dueD (beyC (chF n ps) j)]) := by
          rcases hres with ⟨e, _⟩ | ⟨qs, r, e, _, _, Sq, _⟩
          · rw [e]
            exact shows_nn
          · rw [e]
            obtain ⟨n', h1, h2, h3, h4⟩ := rows_full (full_chF Sq)
            exact shows_two (fun l hl => ⟨(h4 l hl).2, by rw [(h4 l hl).1]; exact h2⟩) (by rw [chR_len, Sq.len]; omega)
        -- due
        refine ⟨fun σ' H' => ∃ dv, σ' = [some (.ref a), some (.ref g), some (.int (0 + (i : Nat))), some (.int (n : Nat)), some (.ref p), some (.str (PyData.list (rowsD (chF n ps))).shown), some (.int (j : Nat)), y7, y8, some (.ref l), some dv, z11, y12, y13] ∧ Grow H7 H' ∧ Ans H' (beyC (chF n ps) j) dv, ?_, ?_⟩
        · refine ⟨_, rfl, Nat.zero_le _, fun e0 ne0 => ?_⟩
          refine ⟨.list (rowsD rs), .list [], .lst (SqL.of (HD.stay ne0 hl)) (dp_rows rs), .lst (SqL.of upd_same) .nil, shaped_rows rsK, rfl, _, rfl, ?_⟩
          rw [eqv_rows]
          have g8 : Grow H7 (upd H7 e0 (.lst [])) := Grow.new ne0
          generalize upd H7 e0 (.lst []) = H8 at g8
          rcases hres with ⟨e, e2, _⟩ | ⟨qs, r, e, e2, e3, Sq, _⟩
          · rw [e2, decide_eq_true rfl, e]
            exact iteF ⟨_, rfl, g8, rfl⟩
          · rw [decide_eq_false (by rw [e2]; exact List.cons_ne_nil _ _), e]
            refine iteT ?_
            have hp8 := g8 _ _ (g7 _ _ hp6)
            have hl8' := g8 _ _ hl
            refine ⟨_, rfl, _, rfl, _, rfl, p, _, rfl, SqL.of hp8, fun q1 n1 => ?_⟩
            rw [cut_to]
            have gq1 : Grow H8 (upd H8 q1 (.lst ((rowsV (chF n ps)).take j))) := Grow.new n1
            have hq1 : (upd H8 q1 (.lst ((rowsV (chF n ps)).take j))) q1 = some (.lst ((rowsV (chF n ps)).take j)) := upd_same
            generalize upd H8 q1 (.lst ((rowsV (chF n ps)).take j)) = HA at gq1 hq1
            refine ⟨_, rfl, q1, l, _, _, rfl, rfl, hq1, gq1 _ _ hl8', by rw [List.length_take, len2]; unfold rowsV; rw [List.length_map]; omega, fun q2 n2 => ?_⟩
            have gq2 : Grow HA (upd HA q2 (.lst ((rowsV (chF n ps)).take j ++ rowsV rs))) := Grow.new n2
            have hq2 : (upd HA q2 (.lst ((rowsV (chF n ps)).take j ++ rowsV rs))) q2 = some (.lst ((rowsV (chF n ps)).take j ++ rowsV rs)) := upd_same
            generalize upd HA q2 (.lst ((rowsV (chF n ps)).take j ++ rowsV rs)) = HB at gq2 hq2
            refine ⟨_, rfl, _, rfl, _, _, rfl, rfl, _, rfl, ?_⟩
            delta tNoPart
            dsimp only
            refine ⟨p, _, rfl, SqL.of (gq2 _ _ (gq1 _ _ hp8)), fun q3 n3 => ?_⟩
            rw [show ((j : Int) + 1) = ((j + 1 : Nat) : Int) by omega, cut_from]
            have gq3 : Grow HB (upd HB q3 (.lst ((rowsV (chF n ps)).drop (j + 1)))) := Grow.new n3
            have hq3 : (upd HB q3 (.lst ((rowsV (chF n ps)).drop (j + 1)))) q3 = some (.lst ((rowsV (chF n ps)).drop (j + 1))) := upd_same
            generalize upd HB q3 (.lst ((rowsV (chF n ps)).drop (j + 1))) = HC at gq3 hq3
            refine ⟨q2, q3, _, _, rfl, rfl, gq3 _ _ hq2, hq3, by rw [List.length_append, List.length_take, List.length_drop, len2]; unfold rowsV; rw [List.length_map]; omega, fun q4 n4 => ?_⟩
            refine ⟨q4, _, rfl, .inl ⟨SqL.of upd_same, fun t nt => ?_⟩⟩
            refine ⟨_, rfl, (((((g8.trans gq1).trans gq2).trans gq3).trans (Grow.new n4)).trans (Grow.new nt)), t, rfl, ?_⟩
            rw [upd_same, e3, e2]
            congr 2
            unfold rowsV
            simp [List.map_take, List.map_drop]
        rintro σ' H8 ⟨dv, rfl, g8, hdv⟩
        have g58 := g57.trans g8
        have ov : OKV H8 (.ref p) := okv_seq (sq5 g58)
        -- told
        refine ⟨_, rfl, _, rfl, ?_⟩
        dsimp only [tNil, tCons, List.append_nil, List.nil_append]
        show spBey e_BadChain.C e_BadNumber.C e_Misfit.C [.ref p, .int (j : Nat)] H8 _ _
        refine bey_good (i := j) (sq5 g58) full (by omega) (by omega) fun tv H9 g9 htv => ?_
        have hdv9 := hdv.grow g9
        have g59 := g58.trans g9
        have hl9 := g9 _ _ (g8 _ _ hl)
        -- len(rows) > 1 or ..
        have lrs : (rowsV rs).length = rs.length := by unfold rowsV; rw [List.length_map]
        refine ⟨_, rfl, l, _, rfl, .inl (SqL.of hl9), _, _, rfl, rfl, _, rfl, ?_⟩
        rw [decide_eq_false (show ¬ (1 : Int) < ((rowsV rs).length : Int) by omega)]
        refine iteF ?_
        refine ⟨_, rfl, _, rfl, _, rfl, p, _, rfl, .inl ⟨SqL.of (g59 _ _ hp), fun t1 nt1 => ?_⟩⟩
        have gt1 := Grow.new (o := .tup (rowsV (chF n ps))) nt1
        have sqt := full_seq (H := upd H9 t1 (.tup (rowsV (chF n ps)))) (p := t1) full (by omega) (.inr upd_same)
        refine ⟨rfl, rfl, ?_⟩
        show spBey e_BadChain.C e_BadNumber.C e_Misfit.C [.ref t1, .int (j : Nat)] _ _ _
        refine bey_good (i := j) sqt full (by omega) (by omega) fun tw H10 g10 htw => ?_
        have g910 : Grow H9 H10 := gt1.trans g10
        refine ⟨by show 2 ≤ sizeLine; decide, fun L1 nL1 => ?_⟩
        have gL1 : Grow H10 (upd H10 L1 (.lst [tv, tw])) := Grow.new nL1
        refine ⟨.ref L1, .list [dueD (beyC (chF n ps) j), dueD (beyC (chF n ps) j)], rfl, .lst (SqL.of upd_same) (.cons ((htv.grow (g910.trans gL1)).dp) (.cons ((htw.grow gL1).dp) .nil)), shD.s, shD.n, shD.p, shD.z, ?_⟩
        generalize upd H10 L1 (.lst [tv, tw]) = H11 at gL1
        refine ⟨_, rfl, _, rfl, by show 2 ≤ sizeLine; decide, fun L2 nL2 => ?_⟩
        have gL2 : Grow H11 (upd H11 L2 (.lst [dv, dv])) := Grow.new nL2
        have hdv12 := hdv9.grow ((g910.trans gL1).trans gL2)
        refine ⟨.ref L2, .list [dueD (beyC (chF n ps) j), dueD (beyC (chF n ps) j)], rfl, .lst (SqL.of upd_same) (.cons hdv12.dp (.cons hdv12.dp .nil)), shD.s, shD.n, shD.p, shD.z, ?_⟩
        have g912 := (g910.trans gL1).trans gL2
        generalize upd H11 L2 (.lst [dv, dv]) = H12 at gL2 hdv12 g912
        have hp12 := g912 _ _ (g59 _ _ hp)
        refine ⟨rfl, _, rfl, ?_⟩
        rw [show ∀ z : Str, (!decide (V.str z = V.str z)) = false from fun z => by rw [decide_eq_true rfl]; rfl]
        refine iteF ?_
        refine ⟨_, rfl, .ref p, .list (rowsD (chF n ps)), rfl, .lst (SqL.of hp12) (dp_rows _), shown.s, shown.n, shown.p, shown.z, ?_⟩
        refine ⟨_, rfl, rfl, ?_⟩
        rw [show ∀ z : Str, (!decide (V.str z = V.str z)) = false from fun z => by rw [decide_eq_true rfl]; rfl]
        refine ⟨false, rfl, iteF ?_⟩
        have g512 := g59.trans g912
        have htv12 := htv.grow g912
        have dec_j : decide (V.int ((j : Nat) : Int) = V.int (((rowsV (chF n ps)).length : Int) - 1)) = decide (j + 1 = m) := by
          rw [len2]
          by_cases h : j + 1 = m
          · rw [decide_eq_true h, decide_eq_true (congrArg V.int (show ((j : Nat) : Int) = (m : Int) - 1 by omega))]
          · rw [decide_eq_false h, decide_eq_false fun z => h ?_]
            have : ((j : Nat) : Int) = (m : Int) - 1 := V.int.inj z
            omega
        have atm2 : (rowsV (chF n ps))[(rowsV (chF n ps)).length - 2]? = some (.str (S (rowF n (ps.take (m - 1))))) := by
          rw [len2, rowsV_at S8 (show m - 2 < m by omega), show m - 2 + 1 = m - 1 by omega]
        have hch : (S (rowF n (ps.take (m - 1)))).cps.toList[j]? = some (sgO (ps.take (m - 1)) j) := by
          rw [show (S (rowF n (ps.take (m - 1)))).cps.toList = rowF n (ps.take (m - 1)) by simp [S]]
          exact rowF_at _ (by omega)
        -- told is not None and ..
        rcases hres with ⟨e, e2, hjm, h48⟩ | ⟨qs, r, e, e2, e3, Sq, hb', hnot⟩
        · rw [e] at htv12
          have etv : tv = .non := htv12
          subst etv
          refine ⟨_, rfl, rfl, _, rfl, iteF (iteF ?_)⟩
          refine ⟨_, rfl, rfl, ?_⟩
          refine ⟨_, rfl, _, rfl, p, _, rfl, .inl (SqL.of hp12), _, _, rfl, rfl, rfl, _, rfl, ?_⟩
          rw [dec_j, decide_eq_true hjm]
          refine iteT ?_
          refine ⟨_, rfl, _, rfl, p, _, _, _, rfl, rfl, SqL.of hp12, at_m2 (by omega) atm2, ?_⟩
          refine ⟨_, rfl, S (rowF n (ps.take (m - 1))), _, (sgO (ps.take (m - 1)) j), rfl, rfl, by rw [S_len, rowF_len]; omega, atI_nat hch, rfl, ?_⟩
          refine ⟨rfl, _, rfl, ?_⟩
          have e9 : decide (V.str ⟨#[sgO (ps.take (m - 1)) j]⟩ = V.str "0") = true := (sg1_eq _ 48).trans (decide_eq_true (by rw [show m - 1 = j by omega]; exact h48))
          rw [e9]
          exact iteF ⟨_, _, _, _, rfl, g512⟩
        · rw [e] at htv12
          obtain ⟨t2, rfl, ht2⟩ := htv12
          refine ⟨_, rfl, rfl, _, rfl, iteT ?_⟩
          have fullq := full_chF Sq
          have lq2 : (chF n qs).length = m := by rw [chR_len, Sq.len]
          refine ⟨_, rfl, _, rfl, ?_⟩
          dsimp only [tNil, tCons, List.append_nil, List.nil_append]
          show spBey e_BadChain.C e_BadNumber.C e_Misfit.C [.ref t2, .int (j : Nat)] H12 _ _
          refine bey_good (i := j) (full_seq fullq (by omega) (.inr ht2)) fullq (by omega) (by omega) fun tx H13 g13 htx => ?_
          rw [hb'] at htx
          obtain ⟨t3, rfl, ht3⟩ := htx
          have hp13 := g13 _ _ hp12
          refine ⟨_, rfl, p, _, rfl, .inl ⟨SqL.of hp13, fun t4 nt4 => ?_⟩⟩
          have g14 : Grow H13 (upd H13 t4 (.tup (rowsV (chF n ps)))) := Grow.new nt4
          have sgK : ∀ l ∈ chF n ps, l.all sgn = true := fun l hl => (rowsK l hl).2
          refine ⟨_, _, .tup (SqT.of (g14 _ _ ht3)) (dp_rows (chF n ps)), .tup (SqT.of upd_same) (dp_rows (chF n ps)), shapedT sgK, shapedT sgK, _, rfl, ?_⟩
          rw [eqvT_refl sgK]
          refine iteF ?_
          have hp14 := g14 _ _ hp13
          have G14 := (g512.trans g13).trans g14
          generalize upd H13 t4 (.tup (rowsV (chF n ps))) = H14 at g14 hp14 G14
          refine ⟨_, rfl, rfl, ?_⟩
          refine ⟨_, rfl, _, rfl, p, _, rfl, .inl (SqL.of hp14), _, _, rfl, rfl, rfl, _, rfl, ?_⟩
          rw [dec_j]
          by_cases hjm : j + 1 = m
          · rw [decide_eq_true hjm]
            refine iteT ?_
            refine ⟨_, rfl, _, rfl, p, _, _, _, rfl, rfl, SqL.of hp14, at_m2 (by omega) atm2, ?_⟩
            refine ⟨_, rfl, S (rowF n (ps.take (m - 1))), _, (sgO (ps.take (m - 1)) j), rfl, rfl, by rw [S_len, rowF_len]; omega, atI_nat hch, rfl, ?_⟩
            refine ⟨rfl, _, rfl, ?_⟩
            have e9 : decide (V.str ⟨#[sgO (ps.take (m - 1)) j]⟩ = V.str "0") = false := (sg1_eq _ 48).trans (decide_eq_false (by rw [show m - 1 = j by omega]; exact fun z => hnot ⟨hjm, z⟩))
            rw [e9]
            exact iteF ⟨_, _, _, _, rfl, G14⟩
          · rw [decide_eq_false hjm]
            refine iteF ?_
            refine ⟨rfl, _, rfl, ?_⟩
            exact iteF ⟨_, _, _, _, rfl, G14⟩
      · rintro σ H6 ⟨z6, z9, z10, z11, rfl, g6⟩
        have hp6 := g6 _ _ hp
        have G6 := gau_grow G5 g6
        have tb6 := tb5.ext g6
        -- odd
        have GH6 := G6
        have hH6 := hp6
        have eH6 := Grow.refl (H := H6)
        refine ⟨_, rfl, by decide, fun p1 n1 => ?_⟩
        have mm1 : p1 ≠ g := (ne_of_none GH6.g n1).symm
        have s1 : Grow H6 (upd H6 p1 (.lst [])) := Grow.new n1
        have o1 : (upd H6 p1 (.lst [])) p1 = some (.lst []) := upd_same
        generalize upd H6 p1 (.lst []) = K1 at s1 o1 ⊢
        have GK1 := gau_grow GH6 s1
        have hK1 := s1 _ _ hH6
        have eK1 := eH6.trans s1
        have c1 : OddC K1 g (.ref p1) := odd_l mm1 o1 (by decide) (fun y hy => absurd hy List.not_mem_nil) rfl
        refine ⟨by show 1 ≤ sizeLine; decide, fun p2 n2 => ?_⟩
        have mm2 : p2 ≠ g := (ne_of_none GK1.g n2).symm
        have s2 : Grow K1 (upd K1 p2 (.lst [.int 5])) := Grow.new n2
        have o2 : (upd K1 p2 (.lst [.int 5])) p2 = some (.lst [.int 5]) := upd_same
        generalize upd K1 p2 (.lst [.int 5]) = K2 at s2 o2 ⊢
        have GK2 := gau_grow GK1 s2
        have hK2 := s2 _ _ hK1
        have eK2 := eK1.trans s2
        have c1 := c1.kp (kp_grow s2)
        have c2 : OddC K2 g (.ref p2) := odd_l mm2 o2 (by decide) (el_one (.inl ⟨_, rfl⟩)) rfl
        dsimp only [tCons, tNil]
        have at1 : atI (rowsV (chF n ps)) (-1) = some (.str (S (rowF n (ps.take m)))) := atI_m1 (by rw [len2]; have e := rowsV_at S8 (show m - 1 < m by omega); rwa [show m - 1 + 1 = m by omega] at e) (by rw [len2]; omega)
        refine ⟨_, rfl, _, rfl, ?_⟩
        delta tNoPart
        dsimp only
        refine ⟨p, _, rfl, SqL.of hK2, fun p3 n3 => ?_⟩
        rw [show (1 : Int) = ((1 : Nat) : Int) from rfl, cut_from]
        have mm3 : p3 ≠ g := (ne_of_none GK2.g n3).symm
        have s3 : Grow K2 (upd K2 p3 (.lst ((rowsV (chF n ps)).drop 1))) := Grow.new n3
        have o3 : (upd K2 p3 (.lst ((rowsV (chF n ps)).drop 1))) p3 = some (.lst ((rowsV (chF n ps)).drop 1)) := upd_same
        generalize upd K2 p3 (.lst ((rowsV (chF n ps)).drop 1)) = K3 at s3 o3 ⊢
        have GK3 := gau_grow GK2 s3
        have hK3 := s3 _ _ hK2
        have eK3 := eK2.trans s3
        have c1 := c1.kp (kp_grow s3)
        have c2 := c2.kp (kp_grow s3)
        have c3 : OddC K3 g (.ref p3) := odd_l mm3 o3 (by rw [List.length_drop, len2]; omega) (fun y hy => el_rows rowsK hn12 y (List.mem_of_mem_drop hy)) (bad_tail S8)
        refine ⟨_, rfl, ?_⟩
        dsimp only [tNil, tCons]
        refine ⟨_, rfl, _, rfl, p, _, _, _, rfl, rfl, SqL.of hK3, at1, ?_⟩
        refine ⟨by show 1 ≤ sizeLine; decide, fun p4 n4 => ?_⟩
        have mm4 : p4 ≠ g := (ne_of_none GK3.g n4).symm
        have s4 : Grow K3 (upd K3 p4 (.lst [.str (S (rowF n (ps.take m)))])) := Grow.new n4
        have o4 : (upd K3 p4 (.lst [.str (S (rowF n (ps.take m)))])) p4 = some (.lst [.str (S (rowF n (ps.take m)))]) := upd_same
        generalize upd K3 p4 (.lst [.str (S (rowF n (ps.take m)))]) = K4 at s4 o4 ⊢
        have GK4 := gau_grow GK3 s4
        have hK4 := s4 _ _ hK3
        have eK4 := eK3.trans s4
        have c1 := c1.kp (kp_grow s4)
        have c2 := c2.kp (kp_grow s4)
        have c3 := c3.kp (kp_grow s4)
        refine ⟨p, p4, _, _, rfl, rfl, hK4, o4, by rw [len2]; show m + 1 ≤ sizeLine; omega, fun p5 n5 => ?_⟩
        have mm5 : p5 ≠ g := (ne_of_none GK4.g n5).symm
        have s5 : Grow K4 (upd K4 p5 (.lst (rowsV (chF n ps) ++ [.str (S (rowF n (ps.take m)))]))) := Grow.new n5
        have o5 : (upd K4 p5 (.lst (rowsV (chF n ps) ++ [.str (S (rowF n (ps.take m)))]))) p5 = some (.lst (rowsV (chF n ps) ++ [.str (S (rowF n (ps.take m)))])) := upd_same
        generalize upd K4 p5 (.lst (rowsV (chF n ps) ++ [.str (S (rowF n (ps.take m)))])) = K5 at s5 o5 ⊢
        have GK5 := gau_grow GK4 s5
        have hK5 := s5 _ _ hK4
        have eK5 := eK4.trans s5
        have c1 := c1.kp (kp_grow s5)
        have c2 := c2.kp (kp_grow s5)
        have c3 := c3.kp (kp_grow s5)
        have c5 : OddC K5 g (.ref p5) := odd_l mm5 o5 (by rw [List.length_append, len2]; show m + 1 ≤ 1000; omega) (el_app (el_rows rowsK hn12) (el_one (.inr (.inl ⟨_, rfl, by rw [S_len, rowF_len]; omega⟩)))) (bad_twice S8 (by have e := rowsV_at S8 (show m - 1 < m by omega); rwa [show m - 1 + 1 = m by omega] at e))
        refine ⟨_, rfl, _, _, rfl, rfl, mul_ok (by omega), ?_⟩
        rw [show Txt.mul "0" (n : Int) = S (List.replicate n 48) from mul_S n]
        refine ⟨by show 1 ≤ sizeLine; decide, fun p6 n6 => ?_⟩
        have mm6 : p6 ≠ g := (ne_of_none GK5.g n6).symm
        have s6 : Grow K5 (upd K5 p6 (.lst [.str (S (List.replicate n 48))])) := Grow.new n6
        have o6 : (upd K5 p6 (.lst [.str (S (List.replicate n 48))])) p6 = some (.lst [.str (S (List.replicate n 48))]) := upd_same
        generalize upd K5 p6 (.lst [.str (S (List.replicate n 48))]) = K6 at s6 o6 ⊢
        have GK6 := gau_grow GK5 s6
        have hK6 := s6 _ _ hK5
        have eK6 := eK5.trans s6
        have c1 := c1.kp (kp_grow s6)
        have c2 := c2.kp (kp_grow s6)
        have c3 := c3.kp (kp_grow s6)
        have c5 := c5.kp (kp_grow s6)
        have c6 : OddC K6 g (.ref p6) := odd_l mm6 o6 (by show 1 ≤ 1000; decide) (el_one (.inr (.inl ⟨_, rfl, by rw [S_len, List.length_replicate]; omega⟩))) (bad_zeros n)
        refine ⟨_, rfl, _, _, rfl, rfl, mul_ok (by omega), ?_⟩
        rw [show Txt.mul "+" (n : Int) = S (List.replicate n 43) from mul_S n]
        refine ⟨by show 1 ≤ sizeLine; decide, fun p7 n7 => ?_⟩
        have mm7 : p7 ≠ g := (ne_of_none GK6.g n7).symm
        have s7 : Grow K6 (upd K6 p7 (.lst [.str (S (List.replicate n 43))])) := Grow.new n7
        have o7 : (upd K6 p7 (.lst [.str (S (List.replicate n 43))])) p7 = some (.lst [.str (S (List.replicate n 43))]) := upd_same
        generalize upd K6 p7 (.lst [.str (S (List.replicate n 43))]) = K7 at s7 o7 ⊢
        have GK7 := gau_grow GK6 s7
        have hK7 := s7 _ _ hK6
        have eK7 := eK6.trans s7
        have c1 := c1.kp (kp_grow s7)
        have c2 := c2.kp (kp_grow s7)
        have c3 := c3.kp (kp_grow s7)
        have c5 := c5.kp (kp_grow s7)
        have c6 := c6.kp (kp_grow s7)
        have c7 : OddC K7 g (.ref p7) := odd_l mm7 o7 (by show 1 ≤ 1000; decide) (el_one (.inr (.inl ⟨_, rfl, by rw [S_len, List.length_replicate]; omega⟩))) (bad_plus hn2)
        dsimp only [tNil, tCons]
        refine fun p8 n8 => ?_
        have mm8 : p8 ≠ g := (ne_of_none GK7.g n8).symm
        have s8 : Grow K7 (upd K7 p8 (.dK [])) := Grow.new n8
        have o8 : (upd K7 p8 (.dK [])) p8 = some (.dK []) := upd_same
        generalize upd K7 p8 (.dK []) = K8 at s8 o8 ⊢
        have GK8 := gau_grow GK7 s8
        have hK8 := s8 _ _ hK7
        have eK8 := eK7.trans s8
        have c1 := c1.kp (kp_grow s8)
        have c2 := c2.kp (kp_grow s8)
        have c3 := c3.kp (kp_grow s8)
        have c5 := c5.kp (kp_grow s8)
        have c6 := c6.kp (kp_grow s8)
        have c7 := c7.kp (kp_grow s8)
        have c8 : OddC K8 g (.ref p8) := .inr (.inr ⟨p8, rfl, mm8, .inl ⟨_, o8⟩⟩)
        refine ⟨_, rfl, by show 1 ≤ sizeLine; decide, fun p9 n9 => ?_⟩
        have mm9 : p9 ≠ g := (ne_of_none GK8.g n9).symm
        have s9 : Grow K8 (upd K8 p9 (.lst [.ref p])) := Grow.new n9
        have o9 : (upd K8 p9 (.lst [.ref p])) p9 = some (.lst [.ref p]) := upd_same
        generalize upd K8 p9 (.lst [.ref p]) = K9 at s9 o9 ⊢
        have GK9 := gau_grow GK8 s9
        have hK9 := s9 _ _ hK8
        have eK9 := eK8.trans s9
        have c1 := c1.kp (kp_grow s9)
        have c2 := c2.kp (kp_grow s9)
        have c3 := c3.kp (kp_grow s9)
        have c5 := c5.kp (kp_grow s9)
        have c6 := c6.kp (kp_grow s9)
        have c7 := c7.kp (kp_grow s9)
        have c8 := c8.kp (kp_grow s9)
        have c9 : OddC K9 g (.ref p9) := odd_l mm9 o9 (by show 1 ≤ 1000; decide) (el_one (.inr (.inr ⟨p, _, rfl, png, hK9⟩))) rfl
        have r0 := rowsV_at S8 (show 0 < m by omega)
        have r1 := rowsV_at S8 (show 1 < m by omega)
        refine ⟨_, rfl, p, _, _, _, rfl, rfl, SqL.of hK9, atI_nat (j := 0) r0, ?_⟩
        refine ⟨_, rfl, p, _, _, _, rfl, rfl, SqL.of hK9, atI_nat (j := 1) r1, ?_⟩
        refine ⟨_, _, rfl, rfl, by rw [S_len, rowF_len]; show n + 1 ≤ sizeLine; omega, ?_⟩
        rw [show S (rowF n (ps.take 2)) ++ ("0" : Str) = S (rowF n (ps.take 2) ++ [48]) from S_cat (rowF n (ps.take 2)) [48]]
        refine ⟨by show 2 ≤ sizeLine; decide, fun p10 n10 => ?_⟩
        have mm10 : p10 ≠ g := (ne_of_none GK9.g n10).symm
        have s10 : Grow K9 (upd K9 p10 (.lst [.str (S (rowF n (ps.take 1))), .str (S (rowF n (ps.take 2) ++ [48]))])) := Grow.new n10
        have o10 : (upd K9 p10 (.lst [.str (S (rowF n (ps.take 1))), .str (S (rowF n (ps.take 2) ++ [48]))])) p10 = some (.lst [.str (S (rowF n (ps.take 1))), .str (S (rowF n (ps.take 2) ++ [48]))]) := upd_same
        generalize upd K9 p10 (.lst [.str (S (rowF n (ps.take 1))), .str (S (rowF n (ps.take 2) ++ [48]))]) = K10 at s10 o10 ⊢
        have GK10 := gau_grow GK9 s10
        have hK10 := s10 _ _ hK9
        have eK10 := eK9.trans s10
        have c1 := c1.kp (kp_grow s10)
        have c2 := c2.kp (kp_grow s10)
        have c3 := c3.kp (kp_grow s10)
        have c5 := c5.kp (kp_grow s10)
        have c6 := c6.kp (kp_grow s10)
        have c7 := c7.kp (kp_grow s10)
        have c8 := c8.kp (kp_grow s10)
        have c9 := c9.kp (kp_grow s10)
        have c10 : OddC K10 g (.ref p10) := odd_l mm10 o10 (by show 2 ≤ 1000; decide) (fun y hy => by rcases List.mem_cons.mp hy with rfl | hy; exact .inr (.inl ⟨_, rfl, by rw [S_len, rowF_len]; omega⟩); rw [List.mem_singleton.mp hy]; exact .inr (.inl ⟨_, rfl, by rw [S_len, List.length_append, rowF_len]; show n + 1 ≤ sizeLine; omega⟩)) (bad_long S8 (by rw [rowF_len, rowF_len]))
        refine ⟨by show 11 ≤ sizeLine; decide, fun p11 n11 => ?_⟩
        have mm11 : p11 ≠ g := (ne_of_none GK10.g n11).symm
        have s11 : Grow K10 (upd K10 p11 (.lst [.non, .ref p1, .str "+", .ref p2, .ref p3, .ref p5, .ref p6, .ref p7, .ref p8, .ref p9, .ref p10])) := Grow.new n11
        have o11 : (upd K10 p11 (.lst [.non, .ref p1, .str "+", .ref p2, .ref p3, .ref p5, .ref p6, .ref p7, .ref p8, .ref p9, .ref p10])) p11 = some (.lst [.non, .ref p1, .str "+", .ref p2, .ref p3, .ref p5, .ref p6, .ref p7, .ref p8, .ref p9, .ref p10]) := upd_same
        generalize upd K10 p11 (.lst [.non, .ref p1, .str "+", .ref p2, .ref p3, .ref p5, .ref p6, .ref p7, .ref p8, .ref p9, .ref p10]) = K11 at s11 o11 ⊢
        have GK11 := gau_grow GK10 s11
        have hK11 := s11 _ _ hK10
        have eK11 := eK10.trans s11
        have c1 := c1.kp (kp_grow s11)
        have c2 := c2.kp (kp_grow s11)
        have c3 := c3.kp (kp_grow s11)
        have c5 := c5.kp (kp_grow s11)
        have c6 := c6.kp (kp_grow s11)
        have c7 := c7.kp (kp_grow s11)
        have c8 := c8.kp (kp_grow s11)
        have c9 := c9.kp (kp_grow s11)
        have c10 := c10.kp (kp_grow s11)
        refine ⟨g, c, ms, a5, r5, p11, _, rfl, GK11, by omega, mm11, SqL.of o11, by simp, by simp, fun x a9 r9 H9 hx ha9 G9 k9 => ?_⟩
        have ox : OddC H9 g x := by
          refine OddC.kp ?_ k9
          rcases List.mem_cons.mp hx with e | hx
          · rw [e]
            exact .inl rfl
          rcases List.mem_cons.mp hx with e | hx
          · rw [e]
            exact c1
          rcases List.mem_cons.mp hx with e | hx
          · rw [e]
            exact .inr (.inl ⟨_, rfl, by decide⟩)
          rcases List.mem_cons.mp hx with e | hx
          · rw [e]
            exact c2
          rcases List.mem_cons.mp hx with e | hx
          · rw [e]
            exact c3
          rcases List.mem_cons.mp hx with e | hx
          · rw [e]
            exact c5
          rcases List.mem_cons.mp hx with e | hx
          · rw [e]
            exact c6
          rcases List.mem_cons.mp hx with e | hx
          · rw [e]
            exact c7
          rcases List.mem_cons.mp hx with e | hx
          · rw [e]
            exact c8
          rcases List.mem_cons.mp hx with e | hx
          · rw [e]
            exact c9
          rcases List.mem_cons.mp hx with e | hx
          · rw [e]
            exact c10
          exact absurd hx List.not_mem_nil
        have hp9 := k9 _ _ png hK11
        have tb9 : LamX.Tabs [(T0, HL.lq X)] H9 := tabs_kp (tb6.ext eK11) k9 GK11.g
        have GH9 := G9
        have hH9 := hp9
        have eH9 := Grow.refl (H := H9)
        refine ⟨fun σ' H' => ∃ u o1 l a10 r10, σ' = [some (.ref a), some (.ref g), some (.int (0 + (i : Nat))), some (.int (n : Nat)), some (.ref p), some (.str (PyData.list (rowsD (chF n ps))).shown), z6, some x, y8, z9, z10, z11, some u, some (.ref o1)] ∧ a10 ≤ a9 + 1 ∧ HD.Gau H' g c ms a10 r10 ∧ HG.Kp g H9 H' ∧ (HD.AnyV H' g u ∧ withinV u 0 ((m : Int) - 1) = false) ∧ H' o1 = some (.lst (rowsV [l])) ∧ fullV (rowsV [l]) = true, ?_, ?_⟩
        · refine ⟨_, rfl, ?_⟩
          dsimp only [tNil, tCons]
          refine ⟨_, rfl, _, rfl, p, _, rfl, .inl (SqL.of hp9), by show 1 ≤ sizeLine; decide, fun p12 n12 => ?_⟩
          have mm12 : p12 ≠ g := (ne_of_none GH9.g n12).symm
          have s12 : Grow H9 (upd H9 p12 (.lst [.int 0])) := Grow.new n12
          have o12 : (upd H9 p12 (.lst [.int 0])) p12 = some (.lst [.int 0]) := upd_same
          generalize upd H9 p12 (.lst [.int 0]) = K12 at s12 o12 ⊢
          have GK12 := gau_grow GH9 s12
          have hK12 := s12 _ _ hH9
          have eK12 := eH9.trans s12
          refine ⟨_, _, rfl, rfl, ⟨by decide, by decide, by decide⟩, ?_⟩
          refine ⟨by show 7 ≤ sizeLine; decide, fun p13 n13 => ?_⟩
          have mm13 : p13 ≠ g := (ne_of_none GK12.g n13).symm
          have s13 : Grow K12 (upd K12 p13 (.lst [.non, .int (-1), .int ((rowsV (chF n ps)).length : Int), .bl true, .str "0", .ref p12, .int (10 ^ (20 : Int).toNat)])) := Grow.new n13
          have o13 : (upd K12 p13 (.lst [.non, .int (-1), .int ((rowsV (chF n ps)).length : Int), .bl true, .str "0", .ref p12, .int (10 ^ (20 : Int).toNat)])) p13 = some (.lst [.non, .int (-1), .int ((rowsV (chF n ps)).length : Int), .bl true, .str "0", .ref p12, .int (10 ^ (20 : Int).toNat)]) := upd_same
          generalize upd K12 p13 (.lst [.non, .int (-1), .int ((rowsV (chF n ps)).length : Int), .bl true, .str "0", .ref p12, .int (10 ^ (20 : Int).toNat)]) = K13 at s13 o13 ⊢
          have GK13 := gau_grow GK12 s13
          have hK13 := s13 _ _ hK12
          have eK13 := eK12.trans s13
          refine ⟨g, c, ms, a9, r9, p13, _, rfl, GK13, by omega, mm13, SqL.of o13, by simp, by simp, fun u a10 r10 H10 hu ha10 G10 k10 => ?_⟩
          have ou : HD.AnyV H10 g u ∧ withinV u 0 ((m : Int) - 1) = false := by
            rcases List.mem_cons.mp hu with e | hu
            · rw [e]
              exact ⟨.inr (.inl rfl), rfl⟩
            rcases List.mem_cons.mp hu with e | hu
            · rw [e]
              exact ⟨.inl ⟨_, rfl⟩, rfl⟩
            rcases List.mem_cons.mp hu with e | hu
            · rw [e]
              refine ⟨.inl ⟨_, rfl⟩, ?_⟩
              show (decide (0 ≤ ((rowsV (chF n ps)).length : Int)) && decide (((rowsV (chF n ps)).length : Int) ≤ (m : Int) - 1)) = false
              rw [len2, decide_eq_false (show ¬ ((m : Int) ≤ (m : Int) - 1) by omega), Bool.and_false]
            rcases List.mem_cons.mp hu with e | hu
            · rw [e]
              exact ⟨.inr (.inr (.inl ⟨_, rfl⟩)), rfl⟩
            rcases List.mem_cons.mp hu with e | hu
            · rw [e]
              exact ⟨.inr (.inr (.inr (.inl ⟨_, rfl⟩))), rfl⟩
            rcases List.mem_cons.mp hu with e | hu
            · rw [e]
              exact ⟨.inr (.inr (.inr (.inr ⟨p12, rfl, mm12, .inl ⟨_, k10 _ _ mm12 (s13 _ _ o12)⟩⟩))), rfl⟩
            rcases List.mem_cons.mp hu with e | hu
            · rw [e]
              refine ⟨.inl ⟨_, rfl⟩, ?_⟩
              show (decide ((0 : Int) ≤ 10 ^ (20 : Int).toNat) && decide ((10 : Int) ^ (20 : Int).toNat ≤ (m : Int) - 1)) = false
              have e20 : (10 : Int) ^ (20 : Int).toNat = 100000000000000000000 := by decide
              rw [decide_eq_false (show ¬ ((10 : Int) ^ (20 : Int).toNat ≤ (m : Int) - 1) by omega), Bool.and_false]
            exact absurd hu List.not_mem_nil
          have hp10 := k10 _ _ png hK13
          have k910 : HG.Kp g H9 H10 := (kp_grow (s12.trans s13)).trans k10
          dsimp only
          have hch0 : (S (rowF n (ps.take (0 + 1)))).cps.toList[0]? = some (sgO (ps.take (0 + 1)) 0) := by rw [show (S (rowF n (ps.take (0 + 1)))).cps.toList = rowF n (ps.take (0 + 1)) by simp [S]]; exact rowF_at _ (by omega)
          refine ⟨_, rfl, p, _, _, _, rfl, rfl, SqL.of hp10, atI_nat (j := 0) r0, ?_⟩
          refine ⟨S (rowF n (ps.take (0 + 1))), _, sgO (ps.take (0 + 1)) 0, rfl, rfl, by rw [S_len, rowF_len]; omega, atI_nat hch0, rfl, ?_⟩
          have e0 : decide (V.str ⟨#[sgO (ps.take (0 + 1)) 0]⟩ = V.str "0") = decide (sgO (ps.take 1) 0 = 48) := sg1_eq _ 48
          refine ⟨_, rfl, ?_⟩
          rw [e0]
          by_cases h48 : sgO (ps.take 1) 0 = 48
          · rw [decide_eq_true h48]
            refine iteF ?_
            have en : ((n - 1 : Nat) : Int) = (n : Int) - Int.ofNat 1 := by show ((n - 1 : Nat) : Int) = (n : Int) - 1; omega
            refine ⟨_, rfl, _, _, rfl, rfl, _, _, rfl, rfl, en ▸ mul_ok (by omega), _, _, rfl, rfl, ?_⟩
            erw [show Txt.mul "0" ((n : Int) - Int.ofNat 1) = S (List.replicate (n - 1) 48) from en ▸ mul_S (n - 1)]
            refine ⟨by show 1 + (S (List.replicate (n - 1) 48)).length ≤ sizeLine; rw [S_len, List.length_replicate]; omega, by show 1 ≤ sizeLine; decide, fun o1 no1 => ?_⟩
            rw [show ("+" : Str) ++ S (List.replicate (n - 1) 48) = S (43 :: List.replicate (n - 1) 48) from S_cat [43] _]
            refine ⟨by show 2 ≤ sizeLine; decide, fun tp ntp => ⟨tp, _, rfl, SqT.of upd_same, rfl, _, _, rfl, _, _, rfl, rfl, u, o1, _, a10, r10, rfl, by omega, gau_grow G10 ((Grow.new no1).trans (Grow.new ntp)), k910.trans (kp_grow ((Grow.new no1).trans (Grow.new ntp))), ⟨ou.1.kp (kp_grow ((Grow.new no1).trans (Grow.new ntp))), ou.2⟩, HD.stay ntp upd_same, lone_full (by omega) hn12⟩⟩
          · rw [decide_eq_false h48]
            refine iteT ?_
            refine ⟨_, rfl, ?_⟩
            dsimp only
            refine ⟨_, rfl, p, _, rfl, SqL.of hp10, fun o1 no1 => ?_⟩
            rw [show (1 : Int) = ((1 : Nat) : Int) from rfl, cut_to, show (rowsV (chF n ps)).take 1 = rowsV [rowF n (ps.take (0 + 1))] from take_one r0]
            refine ⟨by show 2 ≤ sizeLine; decide, fun tp ntp => ⟨tp, _, rfl, SqT.of upd_same, rfl, _, _, rfl, _, _, rfl, rfl, u, o1, _, a10, r10, rfl, by omega, gau_grow G10 ((Grow.new no1).trans (Grow.new ntp)), k910.trans (kp_grow ((Grow.new no1).trans (Grow.new ntp))), ⟨ou.1.kp (kp_grow ((Grow.new no1).trans (Grow.new ntp))), ou.2⟩, HD.stay ntp upd_same, first_full S8 h48⟩⟩
        rintro σ' H11 ⟨u, o1, l, a10, r10, rfl, ha10, G10, k911, ou, ho1, full1⟩
        have hp11 := k911 _ _ png hp9
        have tb11 : LamX.Tabs [(T0, HL.lq X)] H11 := tabs_kp tb9 k911 G9.g
        have ox11 := ox.kp k911
        refine ⟨tb11, fun H12 x12 tb12 => ?_⟩
        intro E1 Q1 hE1
        have ox12 := ox11.ext x12
        have ou12 := any_ext ou.1 x12
        refine ⟨_, rfl, _, rfl, ?_⟩
        dsimp only [tNil, tCons, List.append_nil, List.nil_append]
        refine ⟨x, u, rfl, ox12.okv, any_pv ou12, .inl ⟨ox12.bad, ?_⟩⟩
        refine des_told (cls := e_BadChain.C) (word := "chain") (E := E1) hE1 (.inr (.inl ⟨rfl, rfl⟩)) fun H13 t1 g13 ht1 => ?_
        have tb13 := tb12.ext g13
        have x13 := ext_grow x12 g13
        try dsimp only [tCons]
        refine ⟨tb13, fun H14 x14 tb14 => ?_⟩
        intro E2 Q2 hE2
        have x1114 := ext_trans x13 x14
        have sq14 := full_seq (H := H14) full (by omega) (.inl (x1114 _ _ hp11 fun _ z => (nomatch z)))
        have ou14 := any_ext ou.1 x1114
        refine ⟨_, rfl, _, rfl, ?_⟩
        dsimp only [tNil, tCons, List.append_nil, List.nil_append]
        refine ⟨.ref p, u, rfl, okv_seq sq14, any_pv ou14, .inr ⟨p, chF n ps, rfl, sq14, full, .inl ⟨by rw [lc]; exact ou.2, ?_⟩⟩⟩
        refine des_told (cls := e_BadNumber.C) (word := "number") (E := E2) hE2 (.inl ⟨rfl, rfl⟩) fun H15 t2 g15 ht2 => ?_
        have tb15 := tb14.ext g15
        have x15 := ext_grow x1114 g15
        try dsimp only [tCons]
        refine ⟨tb15, fun H16 x16 tb16 => ?_⟩
        intro E3 Q3 hE3
        have x1116 := ext_trans x15 x16
        have sq16 := full_seq (H := H16) full1 (by show 1 ≤ 1000; decide) (.inl (x1116 _ _ ho1 fun _ z => (nomatch z)))
        refine ⟨_, rfl, ?_⟩
        try dsimp only [tNil, tCons, List.append_nil, List.nil_append]
        refine ⟨.ref o1, .int 0, rfl, okv_seq sq16, .inl ⟨_, rfl⟩, .inr ⟨o1, [l], rfl, sq16, full1, .inr ⟨0, rfl, Nat.one_pos, .inl ⟨rfl, ?_⟩⟩⟩⟩
        refine des_told (cls := e_Misfit.C) (word := "misfit") (E := E3) hE3 (.inr (.inr ⟨rfl, rfl⟩)) fun H17 t3 g17 ht3 => ?_
        have tb17 := tb16.ext g17
        have x17 := ext_grow x1116 g17
        try dsimp only [tCons]
        refine ⟨tb17, fun H18 x18 tb18 => ?_⟩
        intro E4 Q4 hE4
        have x1118 := ext_trans x17 x18
        have sq18 := full_seq (H := H18) full1 (by show 1 ≤ 1000; decide) (.inl (x1118 _ _ ho1 fun _ z => (nomatch z)))
        refine ⟨_, rfl, ?_⟩
        try dsimp only [tNil, tCons, List.append_nil, List.nil_append]
        refine ⟨.ref o1, .int 1, rfl, okv_seq sq18, .inl ⟨_, rfl⟩, .inr ⟨o1, [l], rfl, sq18, full1, .inl ⟨rfl, ?_⟩⟩⟩
        refine des_told (cls := e_BadNumber.C) (word := "number") (E := E4) hE4 (.inl ⟨rfl, rfl⟩) fun H19 t4 g19 ht4 => ?_
        have tb19 := tb18.ext g19
        have x19 := ext_grow x1118 g19
        have G19 := gau_ext G10 x19
        have y1 := g19 _ _ (x18 _ _ (g17 _ _ (x16 _ _ (g15 _ _ (x14 _ _ ht1 fun _ z => (nomatch z))) fun _ z => (nomatch z))) fun _ z => (nomatch z))
        have y2 := g19 _ _ (x18 _ _ (g17 _ _ (x16 _ _ ht2 fun _ z => (nomatch z))) fun _ z => (nomatch z))
        have y3 := g19 _ _ (x18 _ _ ht3 fun _ z => (nomatch z))
        try dsimp only [tNil]
        refine ⟨by show 4 ≤ sizeLine; decide, fun L1 nL1 => ?_⟩
        have gL : Grow H19 (upd H19 L1 (.lst [.ref t1, .ref t2, .ref t3, .ref t4])) := Grow.new nL1
        have oL : (upd H19 L1 (.lst [.ref t1, .ref t2, .ref t3, .ref t4])) L1 = some (.lst [.ref t1, .ref t2, .ref t3, .ref t4]) := upd_same
        generalize upd H19 L1 (.lst [.ref t1, .ref t2, .ref t3, .ref t4]) = H20 at gL oL ⊢
        refine ⟨_, rfl, by show 2 ≤ sizeLine; decide, fun q1 nq1 => ⟨by show 2 ≤ sizeLine; decide, fun q2 nq2 => ⟨by show 2 ≤ sizeLine; decide, fun q3 nq3 => ⟨by show 2 ≤ sizeLine; decide, fun q4 nq4 => ⟨by show 4 ≤ sizeLine; decide, fun L2 nL2 => ?_⟩⟩⟩⟩⟩
        have gq1 : Grow H20 (upd H20 q1 (.tup [.str "chain", .str "chain"])) := Grow.new nq1
        have oq1 : (upd H20 q1 (.tup [.str "chain", .str "chain"])) q1 = some (.tup [.str "chain", .str "chain"]) := upd_same
        generalize upd H20 q1 (.tup [.str "chain", .str "chain"]) = J1 at *
        have gq2 : Grow J1 (upd J1 q2 (.tup [.str "number", .str "index"])) := Grow.new nq2
        have oq2 : (upd J1 q2 (.tup [.str "number", .str "index"])) q2 = some (.tup [.str "number", .str "index"]) := upd_same
        generalize upd J1 q2 (.tup [.str "number", .str "index"]) = J2 at *
        have gq3 : Grow J2 (upd J2 q3 (.tup [.str "misfit", .str "chain"])) := Grow.new nq3
        have oq3 : (upd J2 q3 (.tup [.str "misfit", .str "chain"])) q3 = some (.tup [.str "misfit", .str "chain"]) := upd_same
        generalize upd J2 q3 (.tup [.str "misfit", .str "chain"]) = J3 at *
        have gq4 : Grow J3 (upd J3 q4 (.tup [.str "number", .str "index"])) := Grow.new nq4
        have oq4 : (upd J3 q4 (.tup [.str "number", .str "index"])) q4 = some (.tup [.str "number", .str "index"]) := upd_same
        generalize upd J3 q4 (.tup [.str "number", .str "index"]) = J4 at *
        have gM : Grow J4 (upd J4 L2 (.lst [.ref q1, .ref q2, .ref q3, .ref q4])) := Grow.new nL2
        have oM : (upd J4 L2 (.lst [.ref q1, .ref q2, .ref q3, .ref q4])) L2 = some (.lst [.ref q1, .ref q2, .ref q3, .ref q4]) := upd_same
        generalize upd J4 L2 (.lst [.ref q1, .ref q2, .ref q3, .ref q4]) = J5 at gM oM ⊢
        have g205 : Grow H20 J5 := (((gq1.trans gq2).trans gq3).trans gq4).trans gM
        have g195 : Grow H19 J5 := gL.trans g205
        refine ⟨.list [.tuple [.str "chain", .str "chain"], .tuple [.str "number", .str "index"], .tuple [.str "misfit", .str "chain"], .tuple [.str "number", .str "index"]], .list [.tuple [.str "chain", .str "chain"], .tuple [.str "number", .str "index"], .tuple [.str "misfit", .str "chain"], .tuple [.str "number", .str "index"]], .lst (SqL.of (g205 _ _ oL)) (.cons (.tup (SqT.of (g195 _ _ y1)) (.cons (.str _) (.cons (.str _) .nil))) (.cons (.tup (SqT.of (g195 _ _ y2)) (.cons (.str _) (.cons (.str _) .nil))) (.cons (.tup (SqT.of (g195 _ _ y3)) (.cons (.str _) (.cons (.str _) .nil))) (.cons (.tup (SqT.of (g195 _ _ ht4)) (.cons (.str _) (.cons (.str _) .nil))) (.nil))))), .lst (SqL.of oM) (.cons (.tup (SqT.of (gM _ _ (gq4 _ _ (gq3 _ _ (gq2 _ _ oq1))))) (.cons (.str _) (.cons (.str _) .nil))) (.cons (.tup (SqT.of (gM _ _ (gq4 _ _ (gq3 _ _ oq2)))) (.cons (.str _) (.cons (.str _) .nil))) (.cons (.tup (SqT.of (gM _ _ (gq4 _ _ oq3))) (.cons (.str _) (.cons (.str _) .nil))) (.cons (.tup (SqT.of (gM _ _ oq4)) (.cons (.str _) (.cons (.str _) .nil))) (.nil))))), by decide +kernel, by decide +kernel, ?_⟩
        rw [show PyData.eqv (.list [.tuple [.str "chain", .str "chain"], .tuple [.str "number", .str "index"], .tuple [.str "misfit", .str "chain"], .tuple [.str "number", .str "index"]]) (.list [.tuple [.str "chain", .str "chain"], .tuple [.str "number", .str "index"], .tuple [.str "misfit", .str "chain"], .tuple [.str "number", .str "index"]]) = true by decide +kernel]
        refine ⟨false, rfl, iteF ?_⟩
        refine ⟨_, _, _, _, _, _, _, _, _, _, _, _, rfl, a10, r10, gau_grow G19 g195, by omega, tb19.ext g195⟩
    · rintro σ H2 ⟨y2, y3, y4, y5, y6, y7, y8, y9, y10, y11, y12, y13, rfl, _⟩
      exact q _
end
end K18
namespace K18
open PySem PySem.Spec PyProof.Rows L2 HR SX HC
theorem gI_rel {vs : List V} {us : List Value} {zs : List V} {ws : List Value} (_ : Vals vs us) (r : Vals zs ws) : Vals (gI vs zs) (gI us ws) := by
  cases r with
  | nil => exact .nil
  | cons a r =>
    cases r with
    | nil => exact .nil
    | cons b r =>
      cases r with
      | nil => exact .cons b (.cons a .nil)
      | cons c r => exact .nil
abbrev s_BadNumber_init : Stmt := inClass (topS 6) 0
theorem sc_BadNumber_init : FnScope ["self", "part"] ["self", "part"] (defScope s_BadNumber_init) := ⟨rfl, rfl, rfl, by decide +kernel, rfl, by decide +kernel, by decide +kernel⟩
theorem ok_BadNumber_init {P : Program} {w : World} {K : PySem.W.Frag} {mg : Str → Option Value} {base : Heap} {C fI : Addr} {fd : FuncData} (F : Fun K "__init__" "BadNumber.__init__" s_BadNumber_init fI fd) (R : HX.Row K C fI) : FnOk P w K mg base CX0 1 fI fd ["self", "part"] (HX.spPart C) := by
  refine F.ok sc_BadNumber_init (fun vs H Q E h => ?_) (fun cdv A outer s H vs Q E hr h => ?_)
  · obtain ⟨a, v, rfl, _⟩ := h
    rfl
  · obtain ⟨a, v, rfl, ha, q⟩ := h
    exact ⟨_, pss_one (ps_ost (pv 0) (pv 1)), ⟨_, rfl, _, rfl, a, C, rfl, R.oex, R.no, .inl ⟨ha, fun dx n ne => q dx n ne⟩⟩⟩
abbrev s_BadRow_init : Stmt := inClass (topS 7) 0
theorem sc_BadRow_init : FnScope ["self", "part"] ["self", "part"] (defScope s_BadRow_init) := ⟨rfl, rfl, rfl, by decide +kernel, rfl, by decide +kernel, by decide +kernel⟩
theorem ok_BadRow_init {P : Program} {w : World} {K : PySem.W.Frag} {mg : Str → Option Value} {base : Heap} {C fI : Addr} {fd : FuncData} (F : Fun K "__init__" "BadRow.__init__" s_BadRow_init fI fd) (R : HX.Row K C fI) : FnOk P w K mg base CX0 1 fI fd ["self", "part"] (HX.spPart C) := by
  refine F.ok sc_BadRow_init (fun vs H Q E h => ?_) (fun cdv A outer s H vs Q E hr h => ?_)
  · obtain ⟨a, v, rfl, _⟩ := h
    rfl
  · obtain ⟨a, v, rfl, ha, q⟩ := h
    exact ⟨_, pss_one (ps_ost (pv 0) (pv 1)), ⟨_, rfl, _, rfl, a, C, rfl, R.oex, R.no, .inl ⟨ha, fun dx n ne => q dx n ne⟩⟩⟩
abbrev s_BadChain_init : Stmt := inClass (topS 8) 0
theorem sc_BadChain_init : FnScope ["self", "part"] ["self", "part"] (defScope s_BadChain_init) := ⟨rfl, rfl, rfl, by decide +kernel, rfl, by decide +kernel, by decide +kernel⟩
theorem ok_BadChain_init {P : Program} {w : World} {K : PySem.W.Frag} {mg : Str → Option Value} {base : Heap} {C fI : Addr} {fd : FuncData} (F : Fun K "__init__" "BadChain.__init__" s_BadChain_init fI fd) (R : HX.Row K C fI) : FnOk P w K mg base CX0 1 fI fd ["self", "part"] (HX.spPart C) := by
  refine F.ok sc_BadChain_init (fun vs H Q E h => ?_) (fun cdv A outer s H vs Q E hr h => ?_)
  · obtain ⟨a, v, rfl, _⟩ := h
    rfl
  · obtain ⟨a, v, rfl, ha, q⟩ := h
    exact ⟨_, pss_one (ps_ost (pv 0) (pv 1)), ⟨_, rfl, _, rfl, a, C, rfl, R.oex, R.no, .inl ⟨ha, fun dx n ne => q dx n ne⟩⟩⟩
abbrev s_Misfit_init : Stmt := inClass (topS 9) 0
theorem sc_Misfit_init : FnScope ["self", "part"] ["self", "part"] (defScope s_Misfit_init) := ⟨rfl, rfl, rfl, by decide +kernel, rfl, by decide +kernel, by decide +kernel⟩
theorem ok_Misfit_init {P : Program} {w : World} {K : PySem.W.Frag} {mg : Str → Option Value} {base : Heap} {C fI : Addr} {fd : FuncData} (F : Fun K "__init__" "Misfit.__init__" s_Misfit_init fI fd) (R : HX.Row K C fI) : FnOk P w K mg base CX0 1 fI fd ["self", "part"] (HX.spPart C) := by
  refine F.ok sc_Misfit_init (fun vs H Q E h => ?_) (fun cdv A outer s H vs Q E hr h => ?_)
  · obtain ⟨a, v, rfl, _⟩ := h
    rfl
  · obtain ⟨a, v, rfl, ha, q⟩ := h
    exact ⟨_, pss_one (ps_ost (pv 0) (pv 1)), ⟨_, rfl, _, rfl, a, C, rfl, R.oex, R.no, .inl ⟨ha, fun dx n ne => q dx n ne⟩⟩⟩
theorem all_mk {l : PySem.W.OpenLaw} {w : World} {K : PySem.W.Frag} {h : Heap} {mg : Str → Option Value} {fa f0 f1 f2 f3 f4 f5 f6 f7 f8 f9 f10 f11 f12 f13 f14 f15 f16 f17 f18 S0 C0 g0 C1 g1 C2 g2 C3 g3 : Addr} (X : K.In h) (G : h.Ns mainGlobals mg) (hfa : mg "law" = some (.ref fa))
    {od0 an0 : Option Addr} {sl0 : Array (Option Value)} {oc0 kV0 dc0 pm0 cd0 ct0 : Value} {od1 an1 : Option Addr} {sl1 : Array (Option Value)} {oc1 kV1 dc1 pm1 cd1 ct1 : Value} {od2 an2 : Option Addr} {sl2 : Array (Option Value)} {oc2 kV2 dc2 pm2 cd2 ct2 : Value} {od3 an3 : Option Addr} {sl3 : Array (Option Value)} {oc3 kV3 dc3 pm3 cd3 ct3 : Value} {od4 an4 : Option Addr} {sl4 : Array (Option Value)} {oc4 kV4 dc4 pm4 cd4 ct4 : Value} {od5 an5 : Option Addr} {sl5 : Array (Option Value)} {oc5 kV5 dc5 pm5 cd5 ct5 : Value} {od6 an6 : Option Addr} {sl6 : Array (Option Value)} {oc6 kV6 dc6 pm6 cd6 ct6 : Value} {od7 an7 : Option Addr} {sl7 : Array (Option Value)} {oc7 kV7 dc7 pm7 cd7 ct7 : Value} {od8 an8 : Option Addr} {sl8 : Array (Option Value)} {oc8 kV8 dc8 pm8 cd8 ct8 : Value} {od9 an9 : Option Addr} {sl9 : Array (Option Value)} {oc9 kV9 dc9 pm9 cd9 ct9 : Value} {od10 an10 : Option Addr} {sl10 : Array (Option Value)} {oc10 kV10 dc10 pm10 cd10 ct10 : Value} {od11 an11 : Option Addr} {sl11 : Array (Option Value)} {oc11 kV11 dc11 pm11 cd11 ct11 : Value} {od12 an12 : Option Addr} {sl12 : Array (Option Value)} {oc12 kV12 dc12 pm12 cd12 ct12 : Value} {od13 an13 : Option Addr} {sl13 : Array (Option Value)} {oc13 kV13 dc13 pm13 cd13 ct13 : Value} {od14 an14 : Option Addr} {sl14 : Array (Option Value)} {oc14 kV14 dc14 pm14 cd14 ct14 : Value} {od15 an15 : Option Addr} {sl15 : Array (Option Value)} {oc15 kV15 dc15 pm15 cd15 ct15 : Value} {od16 an16 : Option Addr} {sl16 : Array (Option Value)} {oc16 kV16 dc16 pm16 cd16 ct16 : Value} {od17 an17 : Option Addr} {sl17 : Array (Option Value)} {oc17 kV17 dc17 pm17 cd17 ct17 : Value} {od18 an18 : Option Addr} {sl18 : Array (Option Value)} {oc18 kV18 dc18 pm18 cd18 ct18 : Value}
    {nm0 q0 : Str} {N0 : Addr} {bs0 : List Value} {sn0 : List Str} {sub0 : List Value} {ab0 : Bool} {col0 : Option Bool} {dd0 : Option Addr} {ma0 mb0 mc0 md0 me0 : Option Value} {od_0 an_0 : Option Addr} {sl_0 : Array (Option Value)} {oc_0 kV_0 dc_0 pm_0 cd_0 ct_0 : Value}
    {nm1 q1 : Str} {N1 : Addr} {bs1 : List Value} {sn1 : List Str} {sub1 : List Value} {ab1 : Bool} {col1 : Option Bool} {dd1 : Option Addr} {ma1 mb1 mc1 md1 me1 : Option Value} {od_1 an_1 : Option Addr} {sl_1 : Array (Option Value)} {oc_1 kV_1 dc_1 pm_1 cd_1 ct_1 : Value}
    {nm2 q2 : Str} {N2 : Addr} {bs2 : List Value} {sn2 : List Str} {sub2 : List Value} {ab2 : Bool} {col2 : Option Bool} {dd2 : Option Addr} {ma2 mb2 mc2 md2 me2 : Option Value} {od_2 an_2 : Option Addr} {sl_2 : Array (Option Value)} {oc_2 kV_2 dc_2 pm_2 cd_2 ct_2 : Value}
    {nm3 q3 : Str} {N3 : Addr} {bs3 : List Value} {sn3 : List Str} {sub3 : List Value} {ab3 : Bool} {col3 : Option Bool} {dd3 : Option Addr} {ma3 mb3 mc3 md3 me3 : Option Value} {od_3 an_3 : Option Addr} {sl_3 : Array (Option Value)} {oc_3 kV_3 dc_3 pm_3 cd_3 ct_3 : Value}
    (a0 : PySem.W.nsIn K mainGlobals "is_integer" = some (some (.ref f0))) (l0 : K.lookup f0 = some ⟨oc0, od0, .func (PySem.W.fnOf "is_integer" "is_integer" (defArgs s_is_integer) (defBody s_is_integer) (defScope s_is_integer) .none kV0 dc0 pm0 an0 cd0 ct0), sl0⟩) (c0 : PySem.W.codeIn K cd0 "is_integer" = true) (k0 : PySem.W.keepIn K (.ref f0) = true)
    (a1 : PySem.W.nsIn K mainGlobals "is_within" = some (some (.ref f1))) (l1 : K.lookup f1 = some ⟨oc1, od1, .func (PySem.W.fnOf "is_within" "is_within" (defArgs s_is_within) (defBody s_is_within) (defScope s_is_within) .none kV1 dc1 pm1 an1 cd1 ct1), sl1⟩) (c1 : PySem.W.codeIn K cd1 "is_within" = true) (k1 : PySem.W.keepIn K (.ref f1) = true)
    (a2 : PySem.W.nsIn K mainGlobals "is_list" = some (some (.ref f2))) (l2 : K.lookup f2 = some ⟨oc2, od2, .func (PySem.W.fnOf "is_list" "is_list" (defArgs s_is_list) (defBody s_is_list) (defScope s_is_list) .none kV2 dc2 pm2 an2 cd2 ct2), sl2⟩) (c2 : PySem.W.codeIn K cd2 "is_list" = true) (k2 : PySem.W.keepIn K (.ref f2) = true)
    (a3 : PySem.W.nsIn K mainGlobals "is_row" = some (some (.ref f3))) (l3 : K.lookup f3 = some ⟨oc3, od3, .func (PySem.W.fnOf "is_row" "is_row" (defArgs s_is_row) (defBody s_is_row) (defScope s_is_row) .none kV3 dc3 pm3 an3 cd3 ct3), sl3⟩) (c3 : PySem.W.codeIn K cd3 "is_row" = true) (k3 : PySem.W.keepIn K (.ref f3) = true)
    (a4 : PySem.W.nsIn K mainGlobals "want_row" = some (some (.ref f4))) (l4 : K.lookup f4 = some ⟨oc4, od4, .func (PySem.W.fnOf "want_row" "want_row" (defArgs s_want_row) (defBody s_want_row) (defScope s_want_row) .none kV4 dc4 pm4 an4 cd4 ct4), sl4⟩) (c4 : PySem.W.codeIn K cd4 "want_row" = true) (k4 : PySem.W.keepIn K (.ref f4) = true)
    (a5 : PySem.W.nsIn K mainGlobals "size_of" = some (some (.ref f5))) (l5 : K.lookup f5 = some ⟨oc5, od5, .func (PySem.W.fnOf "size_of" "size_of" (defArgs s_size_of) (defBody s_size_of) (defScope s_size_of) .none kV5 dc5 pm5 an5 cd5 ct5), sl5⟩) (c5 : PySem.W.codeIn K cd5 "size_of" = true) (k5 : PySem.W.keepIn K (.ref f5) = true)
    (a6 : PySem.W.nsIn K mainGlobals "lies_below" = some (some (.ref f6))) (l6 : K.lookup f6 = some ⟨oc6, od6, .func (PySem.W.fnOf "lies_below" "lies_below" (defArgs s_lies_below) (defBody s_lies_below) (defScope s_lies_below) .none kV6 dc6 pm6 an6 cd6 ct6), sl6⟩) (c6 : PySem.W.codeIn K cd6 "lies_below" = true) (k6 : PySem.W.keepIn K (.ref f6) = true)
    (a7 : PySem.W.nsIn K mainGlobals "is_chain" = some (some (.ref f7))) (l7 : K.lookup f7 = some ⟨oc7, od7, .func (PySem.W.fnOf "is_chain" "is_chain" (defArgs s_is_chain) (defBody s_is_chain) (defScope s_is_chain) .none kV7 dc7 pm7 an7 cd7 ct7), sl7⟩) (c7 : PySem.W.codeIn K cd7 "is_chain" = true) (k7 : PySem.W.keepIn K (.ref f7) = true)
    (a8 : PySem.W.nsIn K mainGlobals "is_full" = some (some (.ref f8))) (l8 : K.lookup f8 = some ⟨oc8, od8, .func (PySem.W.fnOf "is_full" "is_full" (defArgs s_is_full) (defBody s_is_full) (defScope s_is_full) .none kV8 dc8 pm8 an8 cd8 ct8), sl8⟩) (c8 : PySem.W.codeIn K cd8 "is_full" = true) (k8 : PySem.W.keepIn K (.ref f8) = true)
    (a9 : PySem.W.nsIn K mainGlobals "want_full" = some (some (.ref f9))) (l9 : K.lookup f9 = some ⟨oc9, od9, .func (PySem.W.fnOf "want_full" "want_full" (defArgs s_want_full) (defBody s_want_full) (defScope s_want_full) .none kV9 dc9 pm9 an9 cd9 ct9), sl9⟩) (c9 : PySem.W.codeIn K cd9 "want_full" = true) (k9 : PySem.W.keepIn K (.ref f9) = true)
    (a10 : PySem.W.nsIn K mainGlobals "row_beyond" = some (some (.ref f10))) (l10 : K.lookup f10 = some ⟨oc10, od10, .func (PySem.W.fnOf "row_beyond" "row_beyond" (defArgs s_row_beyond) (defBody s_row_beyond) (defScope s_row_beyond) .none kV10 dc10 pm10 an10 cd10 ct10), sl10⟩) (c10 : PySem.W.codeIn K cd10 "row_beyond" = true) (k10 : PySem.W.keepIn K (.ref f10) = true)
    (a11 : PySem.W.nsIn K mainGlobals "beyond" = some (some (.ref f11))) (l11 : K.lookup f11 = some ⟨oc11, od11, .func (PySem.W.fnOf "beyond" "beyond" (defArgs s_beyond) (defBody s_beyond) (defScope s_beyond) .none kV11 dc11 pm11 an11 cd11 ct11), sl11⟩) (c11 : PySem.W.codeIn K cd11 "beyond" = true) (k11 : PySem.W.keepIn K (.ref f11) = true)
    (a12 : PySem.W.nsIn K mainGlobals "_law_pen" = some (some (.ref f12))) (l12 : K.lookup f12 = some ⟨oc12, od12, .func (PySem.W.fnOf "_law_pen" "_law_pen" (defArgs s__law_pen) (defBody s__law_pen) (defScope s__law_pen) .none kV12 dc12 pm12 an12 cd12 ct12), sl12⟩) (c12 : PySem.W.codeIn K cd12 "_law_pen" = true) (k12 : PySem.W.keepIn K (.ref f12) = true)
    (a13 : PySem.W.nsIn K mainGlobals "_law_draw" = some (some (.ref f13))) (l13 : K.lookup f13 = some ⟨oc13, od13, .func (PySem.W.fnOf "_law_draw" "_law_draw" (defArgs s__law_draw) (defBody s__law_draw) (defScope s__law_draw) .none kV13 dc13 pm13 an13 cd13 ct13), sl13⟩) (c13 : PySem.W.codeIn K cd13 "_law_draw" = true) (k13 : PySem.W.keepIn K (.ref f13) = true)
    (a14 : PySem.W.nsIn K mainGlobals "_law_one_of" = some (some (.ref f14))) (l14 : K.lookup f14 = some ⟨oc14, od14, .func (PySem.W.fnOf "_law_one_of" "_law_one_of" (defArgs s__law_one_of) (defBody s__law_one_of) (defScope s__law_one_of) .none kV14 dc14 pm14 an14 cd14 ct14), sl14⟩) (c14 : PySem.W.codeIn K cd14 "_law_one_of" = true) (k14 : PySem.W.keepIn K (.ref f14) = true)
    (a15 : PySem.W.nsIn K mainGlobals "_law_heard" = some (some (.ref f15))) (l15 : K.lookup f15 = some ⟨oc15, od15, .func (PySem.W.fnOf "_law_heard" "_law_heard" (defArgs s__law_heard) (defBody s__law_heard) (defScope s__law_heard) .none kV15 dc15 pm15 an15 cd15 ct15), sl15⟩) (c15 : PySem.W.codeIn K cd15 "_law_heard" = true) (k15 : PySem.W.keepIn K (.ref f15) = true)
    (a16 : PySem.W.nsIn K mainGlobals "_law_full" = some (some (.ref f16))) (l16 : K.lookup f16 = some ⟨oc16, od16, .func (PySem.W.fnOf "_law_full" "_law_full" (defArgs s__law_full) (defBody s__law_full) (defScope s__law_full) .none kV16 dc16 pm16 an16 cd16 ct16), sl16⟩) (c16 : PySem.W.codeIn K cd16 "_law_full" = true) (k16 : PySem.W.keepIn K (.ref f16) = true)
    (a17 : PySem.W.nsIn K mainGlobals "_law_others" = some (some (.ref f17))) (l17 : K.lookup f17 = some ⟨oc17, od17, .func (PySem.W.fnOf "_law_others" "_law_others" (defArgs s__law_others) (defBody s__law_others) (defScope s__law_others) .none kV17 dc17 pm17 an17 cd17 ct17), sl17⟩) (c17 : PySem.W.codeIn K cd17 "_law_others" = true) (k17 : PySem.W.keepIn K (.ref f17) = true)
    (a18 : PySem.W.nsIn K mainGlobals "law" = some (some (.ref f18))) (l18 : K.lookup f18 = some ⟨oc18, od18, .func (PySem.W.fnOf "law" "law" (defArgs s_law) (defBody s_law) (defScope s_law) .none kV18 dc18 pm18 an18 cd18 ct18), sl18⟩) (c18 : PySem.W.codeIn K cd18 "law" = true) (k18 : PySem.W.keepIn K (.ref f18) = true)
    (pa0 : PySem.W.nsIn K mainGlobals "StairError" = some (some (.ref S0))) (pe0 : PySem.W.subIn K (.ref S0) (.type "BaseException") = some true) (pi0 : PySem.W.isClsIn K S0 = true) (pt0 : PySem.W.typeIn K (.ref S0) = some (.type "type"))
    (xa0 : PySem.W.nsIn K mainGlobals "BadNumber" = some (some (.ref C0)))
    (xl0 : K.lookup C0 = some (excClassObj nm0 q0 C0 N0 bs0 [.ref S0, .type "ValueError", .type "Exception", .type "BaseException", .type "object"] true sn0 sub0 ab0 col0 dd0 ma0 mb0 mc0 md0 me0 "ValueError.__new__"))
    (xs0 : PySem.W.findIn K (.ref C0) "__setattr__" = some (some (.builtin "object.__setattr__")))
    (xg0 : PySem.W.findIn K (.ref C0) "__getattribute__" = some (some (.builtin "BaseException.__getattribute__")))
    (xh0 : PySem.W.findIn K (.ref C0) "__getattr__" = some none)
    (xc0 : PySem.W.findIn K (.ref C0) "__class__" = some (some (.builtin "object.__class__")))
    (xn0 : PySem.W.findIn K (.ref C0) "part" = some none)
    (xi0 : PySem.W.findIn K (.ref C0) "__init__" = some (some (.ref g0)))
    (xt0 : PySem.W.typeIn K (.ref g0) = some (.type "function"))
    (xj0 : K.lookup g0 = some ⟨oc_0, od_0, .func (PySem.W.fnOf "__init__" "BadNumber.__init__" (defArgs s_BadNumber_init) (defBody s_BadNumber_init) (defScope s_BadNumber_init) .none kV_0 dc_0 pm_0 an_0 cd_0 ct_0), sl_0⟩)
    (xk0 : PySem.W.codeIn K cd_0 "BadNumber.__init__" = true)
    (xm0 : PySem.W.keepIn K (.ref g0) = true)
    (xe0 : PySem.W.subIn K (.ref C0) (.type "BaseException") = some true)
    (xf0 : PySem.W.typeIn K (.ref C0) = some (.type "type"))
    (xo0 : PySem.W.keepIn K (.ref C0) = true)
    (xd0 : PySem.W.hasDictIn K C0 = true)
    (xp0 : PySem.W.isClsIn K C0 = true)
    (xq0 : PySem.W.subIn K (.ref C0) (.type "object") = some true)
    (xr0 : PySem.W.subIn K (.ref C0) (.ref S0) = some true)
    (xu0 : PySem.W.specialIn K (.builtin "object.__class__") "__get__" = some (some (.builtin "getset_descriptor.__get__")))
    (xv0 : PySem.W.takesIn K (.builtin "object.__class__") = some true)
    (xa1 : PySem.W.nsIn K mainGlobals "BadRow" = some (some (.ref C1)))
    (xl1 : K.lookup C1 = some (excClassObj nm1 q1 C1 N1 bs1 [.ref S0, .type "ValueError", .type "Exception", .type "BaseException", .type "object"] true sn1 sub1 ab1 col1 dd1 ma1 mb1 mc1 md1 me1 "ValueError.__new__"))
    (xs1 : PySem.W.findIn K (.ref C1) "__setattr__" = some (some (.builtin "object.__setattr__")))
    (xg1 : PySem.W.findIn K (.ref C1) "__getattribute__" = some (some (.builtin "BaseException.__getattribute__")))
    (xh1 : PySem.W.findIn K (.ref C1) "__getattr__" = some none)
    (xc1 : PySem.W.findIn K (.ref C1) "__class__" = some (some (.builtin "object.__class__")))
    (xn1 : PySem.W.findIn K (.ref C1) "part" = some none)
    (xi1 : PySem.W.findIn K (.ref C1) "__init__" = some (some (.ref g1)))
    (xt1 : PySem.W.typeIn K (.ref g1) = some (.type "function"))
    (xj1 : K.lookup g1 = some ⟨oc_1, od_1, .func (PySem.W.fnOf "__init__" "BadRow.__init__" (defArgs s_BadRow_init) (defBody s_BadRow_init) (defScope s_BadRow_init) .none kV_1 dc_1 pm_1 an_1 cd_1 ct_1), sl_1⟩)
    (xk1 : PySem.W.codeIn K cd_1 "BadRow.__init__" = true)
    (xm1 : PySem.W.keepIn K (.ref g1) = true)
    (xe1 : PySem.W.subIn K (.ref C1) (.type "BaseException") = some true)
    (xf1 : PySem.W.typeIn K (.ref C1) = some (.type "type"))
    (xo1 : PySem.W.keepIn K (.ref C1) = true)
    (xd1 : PySem.W.hasDictIn K C1 = true)
    (xp1 : PySem.W.isClsIn K C1 = true)
    (xq1 : PySem.W.subIn K (.ref C1) (.type "object") = some true)
    (xr1 : PySem.W.subIn K (.ref C1) (.ref S0) = some true)
    (xu1 : PySem.W.specialIn K (.builtin "object.__class__") "__get__" = some (some (.builtin "getset_descriptor.__get__")))
    (xv1 : PySem.W.takesIn K (.builtin "object.__class__") = some true)
    (xa2 : PySem.W.nsIn K mainGlobals "BadChain" = some (some (.ref C2)))
    (xl2 : K.lookup C2 = some (excClassObj nm2 q2 C2 N2 bs2 [.ref S0, .type "ValueError", .type "Exception", .type "BaseException", .type "object"] true sn2 sub2 ab2 col2 dd2 ma2 mb2 mc2 md2 me2 "ValueError.__new__"))
    (xs2 : PySem.W.findIn K (.ref C2) "__setattr__" = some (some (.builtin "object.__setattr__")))
    (xg2 : PySem.W.findIn K (.ref C2) "__getattribute__" = some (some (.builtin "BaseException.__getattribute__")))
    (xh2 : PySem.W.findIn K (.ref C2) "__getattr__" = some none)
    (xc2 : PySem.W.findIn K (.ref C2) "__class__" = some (some (.builtin "object.__class__")))
    (xn2 : PySem.W.findIn K (.ref C2) "part" = some none)
    (xi2 : PySem.W.findIn K (.ref C2) "__init__" = some (some (.ref g2)))
    (xt2 : PySem.W.typeIn K (.ref g2) = some (.type "function"))
    (xj2 : K.lookup g2 = some ⟨oc_2, od_2, .func (PySem.W.fnOf "__init__" "BadChain.__init__" (defArgs s_BadChain_init) (defBody s_BadChain_init) (defScope s_BadChain_init) .none kV_2 dc_2 pm_2 an_2 cd_2 ct_2), sl_2⟩)
    (xk2 : PySem.W.codeIn K cd_2 "BadChain.__init__" = true)
    (xm2 : PySem.W.keepIn K (.ref g2) = true)
    (xe2 : PySem.W.subIn K (.ref C2) (.type "BaseException") = some true)
    (xf2 : PySem.W.typeIn K (.ref C2) = some (.type "type"))
    (xo2 : PySem.W.keepIn K (.ref C2) = true)
    (xd2 : PySem.W.hasDictIn K C2 = true)
    (xp2 : PySem.W.isClsIn K C2 = true)
    (xq2 : PySem.W.subIn K (.ref C2) (.type "object") = some true)
    (xr2 : PySem.W.subIn K (.ref C2) (.ref S0) = some true)
    (xu2 : PySem.W.specialIn K (.builtin "object.__class__") "__get__" = some (some (.builtin "getset_descriptor.__get__")))
    (xv2 : PySem.W.takesIn K (.builtin "object.__class__") = some true)
    (xa3 : PySem.W.nsIn K mainGlobals "Misfit" = some (some (.ref C3)))
    (xl3 : K.lookup C3 = some (excClassObj nm3 q3 C3 N3 bs3 [.ref S0, .type "ValueError", .type "Exception", .type "BaseException", .type "object"] true sn3 sub3 ab3 col3 dd3 ma3 mb3 mc3 md3 me3 "ValueError.__new__"))
    (xs3 : PySem.W.findIn K (.ref C3) "__setattr__" = some (some (.builtin "object.__setattr__")))
    (xg3 : PySem.W.findIn K (.ref C3) "__getattribute__" = some (some (.builtin "BaseException.__getattribute__")))
    (xh3 : PySem.W.findIn K (.ref C3) "__getattr__" = some none)
    (xc3 : PySem.W.findIn K (.ref C3) "__class__" = some (some (.builtin "object.__class__")))
    (xn3 : PySem.W.findIn K (.ref C3) "part" = some none)
    (xi3 : PySem.W.findIn K (.ref C3) "__init__" = some (some (.ref g3)))
    (xt3 : PySem.W.typeIn K (.ref g3) = some (.type "function"))
    (xj3 : K.lookup g3 = some ⟨oc_3, od_3, .func (PySem.W.fnOf "__init__" "Misfit.__init__" (defArgs s_Misfit_init) (defBody s_Misfit_init) (defScope s_Misfit_init) .none kV_3 dc_3 pm_3 an_3 cd_3 ct_3), sl_3⟩)
    (xk3 : PySem.W.codeIn K cd_3 "Misfit.__init__" = true)
    (xm3 : PySem.W.keepIn K (.ref g3) = true)
    (xe3 : PySem.W.subIn K (.ref C3) (.type "BaseException") = some true)
    (xf3 : PySem.W.typeIn K (.ref C3) = some (.type "type"))
    (xo3 : PySem.W.keepIn K (.ref C3) = true)
    (xd3 : PySem.W.hasDictIn K C3 = true)
    (xp3 : PySem.W.isClsIn K C3 = true)
    (xq3 : PySem.W.subIn K (.ref C3) (.type "object") = some true)
    (xr3 : PySem.W.subIn K (.ref C3) (.ref S0) = some true)
    (xu3 : PySem.W.specialIn K (.builtin "object.__class__") "__get__" = some (some (.builtin "getset_descriptor.__get__")))
    (xv3 : PySem.W.takesIn K (.builtin "object.__class__") = some true)
    {aS aO cA cP : Addr} {tM t1 t2 t3 : Tok} {odS : Option Addr} {itsS : Array Value} {nS : Nat} {slS : Array (Option Value)} {esO : Array DictEntry} {nO : Nat}
    (uM : PySem.W.nsIn K mainGlobals "MOST_PLACES" = some (some (.int 12 tM)))
    (uA : PySem.W.nsIn K mainGlobals "SIGNS" = some (some (.ref aS)))
    (uS : K.lookup aS = some ⟨.type "tuple", odS, .seq itsS nS, slS⟩)
    (zS : itsS.size ≤ sizeLine)
    (vS : Vals signs3 itsS.toList)
    (uB : PySem.W.nsIn K mainGlobals "OPPOSITES" = some (some (.ref aO)))
    (uO : K.lookup aO = some ⟨.type "dict", none, .dict esO nO, #[]⟩)
    (kO : PySem.W.KeysLit w.params esO.toList)
    (oP : PySem.W.nsIn K aO (S [43]) = some (some (.str (S [45]) t1)))
    (oM : PySem.W.nsIn K aO (S [45]) = some (some (.str (S [43]) t2)))
    (oZ : PySem.W.nsIn K aO (S [48]) = some (some (.str (S [48]) t3)))
    (tI : PySem.W.tabIn K "law" = some (cA, cP))
    (tN : K.lookup cP = none)
    (yNC : PySem.W.kitOne K (.ref C0) (.ref C2) = some false)
    (yNM : PySem.W.kitOne K (.ref C0) (.ref C3) = some false)
    (yCN : PySem.W.kitOne K (.ref C2) (.ref C0) = some false)
    (yCM : PySem.W.kitOne K (.ref C2) (.ref C3) = some false)
    (yMN : PySem.W.kitOne K (.ref C3) (.ref C0) = some false)
    (yMC : PySem.W.kitOne K (.ref C3) (.ref C2) = some false)
    (z_abs : PySem.W.nsIn K mainGlobals "abs" = some none)
    (z_all : PySem.W.nsIn K mainGlobals "all" = some none)
    (z_bool : PySem.W.nsIn K mainGlobals "bool" = some none)
    (z_int : PySem.W.nsIn K mainGlobals "int" = some none)
    (z_isinstance : PySem.W.nsIn K mainGlobals "isinstance" = some none)
    (z_len : PySem.W.nsIn K mainGlobals "len" = some none)
    (z_list : PySem.W.nsIn K mainGlobals "list" = some none)
    (z_range : PySem.W.nsIn K mainGlobals "range" = some none)
    (z_repr : PySem.W.nsIn K mainGlobals "repr" = some none)
    (z_str : PySem.W.nsIn K mainGlobals "str" = some none)
    (z_tuple : PySem.W.nsIn K mainGlobals "tuple" = some none)
    (z_zip : PySem.W.nsIn K mainGlobals "zip" = some none)
    : ∃ (fd : FuncData) (c T0 : Addr), PySem.W.tabIn K "law" = some (c, T0) ∧ K.lookup T0 = none ∧ (∀ (s : Shared) (v : Value), BindsTo s fd ⟨[v], []⟩ [("script", v)]) ∧ ∀ base : Heap, K.In base → base.Ns mainGlobals mg → LamX.TabB base mg c T0 → HG.FnG l.prog w K mg base CX0 10 fa fd ["script"] (spLaw K T0) := by
  cases hfa.symm.trans (PySem.W.mg_of X G a18)
  have T_is_integer : { T : HG.Tp K mg "is_integer" s_is_integer ["value"] // T.f = f0 ∧ T.fd = PySem.W.fnOf "is_integer" "is_integer" (defArgs s_is_integer) (defBody s_is_integer) (defScope s_is_integer) .none kV0 dc0 pm0 an0 cd0 ct0 } := ⟨HG.tp_mk X G a0 l0 c0 k0 (fun _ _ _ _ _ _ us hl => match us, hl with | [_], _ => rfl), rfl, rfl⟩
  have T_is_within : { T : HG.Tp K mg "is_within" s_is_within ["value", "least", "most"] // T.f = f1 ∧ T.fd = PySem.W.fnOf "is_within" "is_within" (defArgs s_is_within) (defBody s_is_within) (defScope s_is_within) .none kV1 dc1 pm1 an1 cd1 ct1 } := ⟨HG.tp_mk X G a1 l1 c1 k1 (fun _ _ _ _ _ _ us hl => match us, hl with | [_, _, _], _ => rfl), rfl, rfl⟩
  have T_is_list : { T : HG.Tp K mg "is_list" s_is_list ["value"] // T.f = f2 ∧ T.fd = PySem.W.fnOf "is_list" "is_list" (defArgs s_is_list) (defBody s_is_list) (defScope s_is_list) .none kV2 dc2 pm2 an2 cd2 ct2 } := ⟨HG.tp_mk X G a2 l2 c2 k2 (fun _ _ _ _ _ _ us hl => match us, hl with | [_], _ => rfl), rfl, rfl⟩
  have T_is_row : { T : HG.Tp K mg "is_row" s_is_row ["value"] // T.f = f3 ∧ T.fd = PySem.W.fnOf "is_row" "is_row" (defArgs s_is_row) (defBody s_is_row) (defScope s_is_row) .none kV3 dc3 pm3 an3 cd3 ct3 } := ⟨HG.tp_mk X G a3 l3 c3 k3 (fun _ _ _ _ _ _ us hl => match us, hl with | [_], _ => rfl), rfl, rfl⟩
  have T_want_row : { T : HG.Tp K mg "want_row" s_want_row ["value", "part"] // T.f = f4 ∧ T.fd = PySem.W.fnOf "want_row" "want_row" (defArgs s_want_row) (defBody s_want_row) (defScope s_want_row) .none kV4 dc4 pm4 an4 cd4 ct4 } := ⟨HG.tp_mk X G a4 l4 c4 k4 (fun _ _ _ _ _ _ us hl => match us, hl with | [_, _], _ => rfl), rfl, rfl⟩
  have T_size_of : { T : HG.Tp K mg "size_of" s_size_of ["row"] // T.f = f5 ∧ T.fd = PySem.W.fnOf "size_of" "size_of" (defArgs s_size_of) (defBody s_size_of) (defScope s_size_of) .none kV5 dc5 pm5 an5 cd5 ct5 } := ⟨HG.tp_mk X G a5 l5 c5 k5 (fun _ _ _ _ _ _ us hl => match us, hl with | [_], _ => rfl), rfl, rfl⟩
  have T_lies_below : { T : HG.Tp K mg "lies_below" s_lies_below ["one", "other"] // T.f = f6 ∧ T.fd = PySem.W.fnOf "lies_below" "lies_below" (defArgs s_lies_below) (defBody s_lies_below) (defScope s_lies_below) .none kV6 dc6 pm6 an6 cd6 ct6 } := ⟨HG.tp_mk X G a6 l6 c6 k6 (fun _ _ _ _ _ _ us hl => match us, hl with | [_, _], _ => rfl), rfl, rfl⟩
  have T_is_chain : { T : HG.Tp K mg "is_chain" s_is_chain ["value"] // T.f = f7 ∧ T.fd = PySem.W.fnOf "is_chain" "is_chain" (defArgs s_is_chain) (defBody s_is_chain) (defScope s_is_chain) .none kV7 dc7 pm7 an7 cd7 ct7 } := ⟨HG.tp_mk X G a7 l7 c7 k7 (fun _ _ _ _ _ _ us hl => match us, hl with | [_], _ => rfl), rfl, rfl⟩
  have T_is_full : { T : HG.Tp K mg "is_full" s_is_full ["value"] // T.f = f8 ∧ T.fd = PySem.W.fnOf "is_full" "is_full" (defArgs s_is_full) (defBody s_is_full) (defScope s_is_full) .none kV8 dc8 pm8 an8 cd8 ct8 } := ⟨HG.tp_mk X G a8 l8 c8 k8 (fun _ _ _ _ _ _ us hl => match us, hl with | [_], _ => rfl), rfl, rfl⟩
  have T_want_full : { T : HG.Tp K mg "want_full" s_want_full ["value", "part"] // T.f = f9 ∧ T.fd = PySem.W.fnOf "want_full" "want_full" (defArgs s_want_full) (defBody s_want_full) (defScope s_want_full) .none kV9 dc9 pm9 an9 cd9 ct9 } := ⟨HG.tp_mk X G a9 l9 c9 k9 (fun _ _ _ _ _ _ us hl => match us, hl with | [_, _], _ => rfl), rfl, rfl⟩
  have T_row_beyond : { T : HG.Tp K mg "row_beyond" s_row_beyond ["chain", "index"] // T.f = f10 ∧ T.fd = PySem.W.fnOf "row_beyond" "row_beyond" (defArgs s_row_beyond) (defBody s_row_beyond) (defScope s_row_beyond) .none kV10 dc10 pm10 an10 cd10 ct10 } := ⟨HG.tp_mk X G a10 l10 c10 k10 (fun _ _ _ _ _ _ us hl => match us, hl with | [_, _], _ => rfl), rfl, rfl⟩
  have T_beyond : { T : HG.Tp K mg "beyond" s_beyond ["chain", "index"] // T.f = f11 ∧ T.fd = PySem.W.fnOf "beyond" "beyond" (defArgs s_beyond) (defBody s_beyond) (defScope s_beyond) .none kV11 dc11 pm11 an11 cd11 ct11 } := ⟨HG.tp_mk X G a11 l11 c11 k11 (fun _ _ _ _ _ _ us hl => match us, hl with | [_, _], _ => rfl), rfl, rfl⟩
  have T__law_pen : { T : HG.Tp K mg "_law_pen" s__law_pen ["script"] // T.f = f12 ∧ T.fd = PySem.W.fnOf "_law_pen" "_law_pen" (defArgs s__law_pen) (defBody s__law_pen) (defScope s__law_pen) .none kV12 dc12 pm12 an12 cd12 ct12 } := ⟨HG.tp_mk X G a12 l12 c12 k12 (fun _ _ _ _ _ _ us hl => match us, hl with | [_], _ => rfl), rfl, rfl⟩
  have T__law_draw : { T : HG.Tp K mg "_law_draw" s__law_draw ["pen", "many"] // T.f = f13 ∧ T.fd = PySem.W.fnOf "_law_draw" "_law_draw" (defArgs s__law_draw) (defBody s__law_draw) (defScope s__law_draw) .none kV13 dc13 pm13 an13 cd13 ct13 } := ⟨HG.tp_mk X G a13 l13 c13 k13 (fun _ _ _ _ _ _ us hl => match us, hl with | [_, _], _ => rfl), rfl, rfl⟩
  have T__law_one_of : { T : HG.Tp K mg "_law_one_of" s__law_one_of ["pen", "some"] // T.f = f14 ∧ T.fd = PySem.W.fnOf "_law_one_of" "_law_one_of" (defArgs s__law_one_of) (defBody s__law_one_of) (defScope s__law_one_of) .none kV14 dc14 pm14 an14 cd14 ct14 } := ⟨HG.tp_mk X G a14 l14 c14 k14 (fun _ _ _ _ _ _ us hl => match us, hl with | [_, _], _ => rfl), rfl, rfl⟩
  have T__law_heard : { T : HG.Tp K mg "_law_heard" s__law_heard ["ask"] // T.f = f15 ∧ T.fd = PySem.W.fnOf "_law_heard" "_law_heard" (defArgs s__law_heard) (defBody s__law_heard) (defScope s__law_heard) .none kV15 dc15 pm15 an15 cd15 ct15 } := ⟨HG.tp_mk X G a15 l15 c15 k15 (fun _ _ _ _ _ _ us hl => match us, hl with | [_], _ => rfl), rfl, rfl⟩
  have T__law_full : { T : HG.Tp K mg "_law_full" s__law_full ["pen", "places", "many"] // T.f = f16 ∧ T.fd = PySem.W.fnOf "_law_full" "_law_full" (defArgs s__law_full) (defBody s__law_full) (defScope s__law_full) .none kV16 dc16 pm16 an16 cd16 ct16 } := ⟨HG.tp_mk X G a16 l16 c16 k16 (fun _ _ _ _ _ _ us hl => match us, hl with | [_, _, _], _ => rfl), rfl, rfl⟩
  have T__law_others : { T : HG.Tp K mg "_law_others" s__law_others ["chain", "index"] // T.f = f17 ∧ T.fd = PySem.W.fnOf "_law_others" "_law_others" (defArgs s__law_others) (defBody s__law_others) (defScope s__law_others) .none kV17 dc17 pm17 an17 cd17 ct17 } := ⟨HG.tp_mk X G a17 l17 c17 k17 (fun _ _ _ _ _ _ us hl => match us, hl with | [_, _], _ => rfl), rfl, rfl⟩
  have T_law : { T : HG.Tp K mg "law" s_law ["script"] // T.f = fa ∧ T.fd = PySem.W.fnOf "law" "law" (defArgs s_law) (defBody s_law) (defScope s_law) .none kV18 dc18 pm18 an18 cd18 ct18 } := ⟨HG.tp_mk X G a18 l18 c18 k18 (fun _ _ _ _ _ _ us hl => match us, hl with | [_], _ => rfl), rfl, rfl⟩
  have m_abs := PySem.W.mg_none_of X G z_abs
  have m_all := PySem.W.mg_none_of X G z_all
  have m_bool := PySem.W.mg_none_of X G z_bool
  have m_int := PySem.W.mg_none_of X G z_int
  have m_isinstance := PySem.W.mg_none_of X G z_isinstance
  have m_len := PySem.W.mg_none_of X G z_len
  have m_list := PySem.W.mg_none_of X G z_list
  have m_range := PySem.W.mg_none_of X G z_range
  have m_repr := PySem.W.mg_none_of X G z_repr
  have m_str := PySem.W.mg_none_of X G z_str
  have m_tuple := PySem.W.mg_none_of X G z_tuple
  have m_zip := PySem.W.mg_none_of X G z_zip
  have m_StairError := PySem.W.mg_of X G pa0
  have R_BadNumber : HX.Row K C0 g0 := ⟨⟨_, _, _, _, _, _, _, _, _, _, _, _, _, _, _, xl0, by rfl⟩, xs0, xg0, xh0, xc0, xn0, xi0, xt0, xe0, xf0, xo0, xd0, xp0, xq0, xu0, xv0⟩
  have I_BadNumber := fun_mk (st := s_BadNumber_init) xj0 xk0 xm0
  have B_BadNumber := I_BadNumber.binds (ps := ["self", "part"]) (fun _ _ _ _ _ _ us hl => match us, hl with | [_, _], _ => rfl)
  have x_BadNumber := HX.exm_of (C := C0) pe0 pi0 pt0 xr0
  have R_BadRow : HX.Row K C1 g1 := ⟨⟨_, _, _, _, _, _, _, _, _, _, _, _, _, _, _, xl1, by rfl⟩, xs1, xg1, xh1, xc1, xn1, xi1, xt1, xe1, xf1, xo1, xd1, xp1, xq1, xu1, xv1⟩
  have I_BadRow := fun_mk (st := s_BadRow_init) xj1 xk1 xm1
  have B_BadRow := I_BadRow.binds (ps := ["self", "part"]) (fun _ _ _ _ _ _ us hl => match us, hl with | [_, _], _ => rfl)
  have x_BadRow := HX.exm_of (C := C1) pe0 pi0 pt0 xr1
  have R_BadChain : HX.Row K C2 g2 := ⟨⟨_, _, _, _, _, _, _, _, _, _, _, _, _, _, _, xl2, by rfl⟩, xs2, xg2, xh2, xc2, xn2, xi2, xt2, xe2, xf2, xo2, xd2, xp2, xq2, xu2, xv2⟩
  have I_BadChain := fun_mk (st := s_BadChain_init) xj2 xk2 xm2
  have B_BadChain := I_BadChain.binds (ps := ["self", "part"]) (fun _ _ _ _ _ _ us hl => match us, hl with | [_, _], _ => rfl)
  have x_BadChain := HX.exm_of (C := C2) pe0 pi0 pt0 xr2
  have R_Misfit : HX.Row K C3 g3 := ⟨⟨_, _, _, _, _, _, _, _, _, _, _, _, _, _, _, xl3, by rfl⟩, xs3, xg3, xh3, xc3, xn3, xi3, xt3, xe3, xf3, xo3, xd3, xp3, xq3, xu3, xv3⟩
  have I_Misfit := fun_mk (st := s_Misfit_init) xj3 xk3 xm3
  have B_Misfit := I_Misfit.binds (ps := ["self", "part"]) (fun _ _ _ _ _ _ us hl => match us, hl with | [_, _], _ => rfl)
  have x_Misfit := HX.exm_of (C := C3) pe0 pi0 pt0 xr3
  refine ⟨PySem.W.fnOf "law" "law" (defArgs s_law) (defBody s_law) (defScope s_law) .none kV18 dc18 pm18 an18 cd18 ct18, cA, cP, tI, tN, fun s v => .of_eq rfl, fun base _ _ TB => ?_⟩
  let e_BadNumber : HX.Er l.prog w K mg base "BadNumber" := R_BadNumber.er (PySem.W.mg_of X G xa0) B_BadNumber (ok_BadNumber_init I_BadNumber R_BadNumber)
  let e_BadRow : HX.Er l.prog w K mg base "BadRow" := R_BadRow.er (PySem.W.mg_of X G xa1) B_BadRow (ok_BadRow_init I_BadRow R_BadRow)
  let e_BadChain : HX.Er l.prog w K mg base "BadChain" := R_BadChain.er (PySem.W.mg_of X G xa2) B_BadChain (ok_BadChain_init I_BadChain R_BadChain)
  let e_Misfit : HX.Er l.prog w K mg base "Misfit" := R_Misfit.er (PySem.W.mg_of X G xa3) B_Misfit (ok_Misfit_init I_Misfit R_Misfit)
  have k_SIGNS : ∀ H, SqT K H aS signs3 := fun H => .inr ⟨_, itsS, nS, uS, rfl, rfl, zS, vS⟩
  have k_OPP : OppK K w aO := ⟨⟨esO, nO, _, uO, kO, oP, ⟨_, rfl⟩⟩, ⟨esO, nO, _, uO, kO, oM, ⟨_, rfl⟩⟩, ⟨esO, nO, _, uO, kO, oZ, ⟨_, rfl⟩⟩⟩
  have m_MOST_PLACES := PySem.W.mg_of X G uM
  have m_SIGNS := PySem.W.mg_of X G uA
  have m_OPPOSITES := PySem.W.mg_of X G uB
  let o_is_integer := T_is_integer.1.df (base := base) (P := l.prog) (w := w) (ok_is_integer T_is_integer.1 m_isinstance m_int m_bool)
  let o_is_within := T_is_within.1.df (ok_is_within T_is_within.1 o_is_integer)
  let o_is_list := T_is_list.1.df (base := base) (P := l.prog) (w := w) (ok_is_list T_is_list.1 m_isinstance m_list m_tuple)
  let o_is_row := T_is_row.1.df (base := base) (P := l.prog) (w := w) (ok_is_row T_is_row.1 m_MOST_PLACES m_SIGNS k_SIGNS m_isinstance m_str m_len m_all)
  let o_want_row := T_want_row.1.df (ok_want_row T_want_row.1 o_is_row e_BadRow)
  let o_size_of := T_size_of.1.df (ok_size_of T_size_of.1 o_want_row m_len)
  let o_lies_below := T_lies_below.1.df (base := base) (P := l.prog) (w := w) (ok_lies_below T_lies_below.1 m_len m_all m_range)
  let o_is_chain := T_is_chain.1.df (ok_is_chain T_is_chain.1 o_is_list o_is_row o_lies_below m_len m_range)
  let o_is_full := T_is_full.1.df (ok_is_full T_is_full.1 o_is_chain o_size_of m_len m_range m_list)
  let o_want_full := T_want_full.1.df (ok_want_full T_want_full.1 o_is_full e_BadChain)
  let o_row_beyond := T_row_beyond.1.df (base := base) (P := l.prog) (w := w) (ok_row_beyond T_row_beyond.1 m_OPPOSITES k_OPP m_len m_zip)
  let o_beyond := T_beyond.1.df (ok_beyond T_beyond.1 e_BadChain o_want_full o_is_within o_row_beyond e_BadNumber e_Misfit m_len)
  let o__law_pen := T__law_pen.1.df (base := base) (P := l.prog) (w := w) (ok__law_pen T__law_pen.1 m_int)
  let o__law_draw := T__law_draw.1.df (base := base) (P := l.prog) (w := w) (ok__law_draw T__law_draw.1 m_int m_len m_abs)
  let o__law_one_of := T__law_one_of.1.df (ok__law_one_of T__law_one_of.1 o__law_draw m_len)
  let o__law_full := T__law_full.1.df (base := base) (P := l.prog) (w := w) (ok__law_full T__law_full.1 o__law_draw o__law_one_of m_range m_list m_len)
  let o__law_others := T__law_others.1.df (base := base) (P := l.prog) (w := w) (ok__law_others T__law_others.1 m_range m_len m_zip)
  have kb := HG.kbn (ks := ["index", "chain"]) 0 T_beyond.1 gI gI_rel (fun _ _ _ _ _ _ us ws l1 l2 => match us, ws, l1, l2 with | [], [_, _], _, _ => rfl)
  have known : T_law.1.fd.code = .ref cA := by
    rw [T_law.2.2]
    exact HT0.tab_code tI a18 l18
  have res := ok_law T_law.1 known T__law_heard.1 e_BadNumber e_BadChain e_Misfit m_StairError x_BadNumber x_BadChain x_Misfit ⟨yNC, yNM, yCN, yCM, yMN, yMC⟩ o_beyond kb o__law_pen o__law_draw o__law_one_of o__law_full o__law_others TB m_range m_repr m_tuple m_len m_isinstance
  have e := res
  rw [T_law.2.1, T_law.2.2] at e
  exact e
end K18
open PySem PySem.W PyProof.Rows
set_option maxHeartbeats 0 in
theorem PySem.Challenge.cw_roomstair_k18_what_lies_beyond_holds : PySem.Challenge.rw_roomstair_k18_what_lies_beyond.Holds := by
  w_on; o_law; k_head; (case hw => w_witness2)
  k_fill
  refine HT0.walk_gT (l := PySem.Challenge.rw_roomstair_k18_what_lies_beyond) (n := 63) (k := 10) (x := "script") (CX := fun _ => L2.CX0) (sp := fun w T0 => K18.spLaw _ T0) rfl (by decide) rfl ⟨rfl, by decide, by decide⟩ rfl (fun w h Y => PySem.W.km_in_of Y) ?F (fun _ T0 _ a ns hl hT hS => ⟨a, ns, rfl, hT, hS, hl, fun _ => rfl⟩) (fun _ _ _ _ _ h => h)
  case F =>
    intro w mg fa h KX G hmg
    refine' K18.all_mk KX G hmg ?a0 ?l0 ?c0 ?k0 ?a1 ?l1 ?c1 ?k1 ?a2 ?l2 ?c2 ?k2 ?a3 ?l3 ?c3 ?k3 ?a4 ?l4 ?c4 ?k4 ?a5 ?l5 ?c5 ?k5 ?a6 ?l6 ?c6 ?k6 ?a7 ?l7 ?c7 ?k7 ?a8 ?l8 ?c8 ?k8 ?a9 ?l9 ?c9 ?k9 ?a10 ?l10 ?c10 ?k10 ?a11 ?l11 ?c11 ?k11 ?a12 ?l12 ?c12 ?k12 ?a13 ?l13 ?c13 ?k13 ?a14 ?l14 ?c14 ?k14 ?a15 ?l15 ?c15 ?k15 ?a16 ?l16 ?c16 ?k16 ?a17 ?l17 ?c17 ?k17 ?a18 ?l18 ?c18 ?k18 ?pa0 ?pe0 ?pi0 ?pt0 ?xa0 ?xl0 ?xs0 ?xg0 ?xh0 ?xc0 ?xn0 ?xi0 ?xt0 ?xj0 ?xk0 ?xm0 ?xe0 ?xf0 ?xo0 ?xd0 ?xp0 ?xq0 ?xr0 ?xu0 ?xv0 ?xa1 ?xl1 ?xs1 ?xg1 ?xh1 ?xc1 ?xn1 ?xi1 ?xt1 ?xj1 ?xk1 ?xm1 ?xe1 ?xf1 ?xo1 ?xd1 ?xp1 ?xq1 ?xr1 ?xu1 ?xv1 ?xa2 ?xl2 ?xs2 ?xg2 ?xh2 ?xc2 ?xn2 ?xi2 ?xt2 ?xj2 ?xk2 ?xm2 ?xe2 ?xf2 ?xo2 ?xd2 ?xp2 ?xq2 ?xr2 ?xu2 ?xv2 ?xa3 ?xl3 ?xs3 ?xg3 ?xh3 ?xc3 ?xn3 ?xi3 ?xt3 ?xj3 ?xk3 ?xm3 ?xe3 ?xf3 ?xo3 ?xd3 ?xp3 ?xq3 ?xr3 ?xu3 ?xv3 ?uM ?uA ?uS ?zS ?vS ?uB ?uO ?kO ?oP ?oM ?oZ ?tI ?tN ?yNC ?yNM ?yCN ?yCM ?yMN ?yMC ?z_abs ?z_all ?z_bool ?z_int ?z_isinstance ?z_len ?z_list ?z_range ?z_repr ?z_str ?z_tuple ?z_zip
    (case a0 => k_is); (case l0 => k_is); (case c0 => k_is); (case k0 => k_is); (case a1 => k_is); (case l1 => k_is); (case c1 => k_is); (case k1 => k_is); (case a2 => k_is); (case l2 => k_is); (case c2 => k_is); (case k2 => k_is); (case a3 => k_is); (case l3 => k_is); (case c3 => k_is); (case k3 => k_is); (case a4 => k_is); (case l4 => k_is); (case c4 => k_is); (case k4 => k_is); (case a5 => k_is); (case l5 => k_is); (case c5 => k_is); (case k5 => k_is); (case a6 => k_is); (case l6 => k_is); (case c6 => k_is); (case k6 => k_is); (case a7 => k_is); (case l7 => k_is); (case c7 => k_is); (case k7 => k_is); (case a8 => k_is); (case l8 => k_is); (case c8 => k_is); (case k8 => k_is); (case a9 => k_is); (case l9 => k_is); (case c9 => k_is); (case k9 => k_is); (case a10 => k_is); (case l10 => k_is); (case c10 => k_is); (case k10 => k_is); (case a11 => k_is); (case l11 => k_is); (case c11 => k_is); (case k11 => k_is); (case a12 => k_is); (case l12 => k_is); (case c12 => k_is); (case k12 => k_is); (case a13 => k_is); (case l13 => k_is); (case c13 => k_is); (case k13 => k_is); (case a14 => k_is); (case l14 => k_is); (case c14 => k_is); (case k14 => k_is); (case a15 => k_is); (case l15 => k_is); (case c15 => k_is); (case k15 => k_is); (case a16 => k_is); (case l16 => k_is); (case c16 => k_is); (case k16 => k_is); (case a17 => k_is); (case l17 => k_is); (case c17 => k_is); (case k17 => k_is); (case a18 => k_is); (case l18 => k_is); (case c18 => k_is); (case k18 => k_is); (case pa0 => first | k_is | rfl); (case pe0 => first | k_is | rfl); (case pi0 => first | k_is | rfl); (case pt0 => first | k_is | rfl); (case xa0 => first | k_is | rfl); (case xl0 => first | k_is | rfl); (case xs0 => first | k_is | rfl); (case xg0 => first | k_is | rfl); (case xh0 => first | k_is | rfl); (case xc0 => first | k_is | rfl); (case xn0 => first | k_is | rfl); (case xi0 => first | k_is | rfl); (case xt0 => first | k_is | rfl); (case xj0 => first | k_is | rfl); (case xk0 => first | k_is | rfl); (case xm0 => first | k_is | rfl); (case xe0 => first | k_is | rfl); (case xf0 => first | k_is | rfl); (case xo0 => first | k_is | rfl); (case xd0 => first | k_is | rfl); (case xp0 => first | k_is | rfl); (case xq0 => first | k_is | rfl); (case xr0 => first | k_is | rfl); (case xu0 => first | k_is | rfl); (case xv0 => first | k_is | rfl); (case xa1 => first | k_is | rfl); (case xl1 => first | k_is | rfl); (case xs1 => first | k_is | rfl); (case xg1 => first | k_is | rfl); (case xh1 => first | k_is | rfl); (case xc1 => first | k_is | rfl); (case xn1 => first | k_is | rfl); (case xi1 => first | k_is | rfl); (case xt1 => first | k_is | rfl); (case xj1 => first | k_is | rfl); (case xk1 => first | k_is | rfl); (case xm1 => first | k_is | rfl); (case xe1 => first | k_is | rfl); (case xf1 => first | k_is | rfl); (case xo1 => first | k_is | rfl); (case xd1 => first | k_is | rfl); (case xp1 => first | k_is | rfl); (case xq1 => first | k_is | rfl); (case xr1 => first | k_is | rfl); (case xu1 => first | k_is | rfl); (case xv1 => first | k_is | rfl); (case xa2 => first | k_is | rfl); (case xl2 => first | k_is | rfl); (case xs2 => first | k_is | rfl); (case xg2 => first | k_is | rfl); (case xh2 => first | k_is | rfl); (case xc2 => first | k_is | rfl); (case xn2 => first | k_is | rfl); (case xi2 => first | k_is | rfl); (case xt2 => first | k_is | rfl); (case xj2 => first | k_is | rfl); (case xk2 => first | k_is | rfl); (case xm2 => first | k_is | rfl); (case xe2 => first | k_is | rfl); (case xf2 => first | k_is | rfl); (case xo2 => first | k_is | rfl); (case xd2 => first | k_is | rfl); (case xp2 => first | k_is | rfl); (case xq2 => first | k_is | rfl); (case xr2 => first | k_is | rfl); (case xu2 => first | k_is | rfl); (case xv2 => first | k_is | rfl); (case xa3 => first | k_is | rfl); (case xl3 => first | k_is | rfl); (case xs3 => first | k_is | rfl); (case xg3 => first | k_is | rfl); (case xh3 => first | k_is | rfl); (case xc3 => first | k_is | rfl); (case xn3 => first | k_is | rfl); (case xi3 => first | k_is | rfl); (case xt3 => first | k_is | rfl); (case xj3 => first | k_is | rfl); (case xk3 => first | k_is | rfl); (case xm3 => first | k_is | rfl); (case xe3 => first | k_is | rfl); (case xf3 => first | k_is | rfl); (case xo3 => first | k_is | rfl); (case xd3 => first | k_is | rfl); (case xp3 => first | k_is | rfl); (case xq3 => first | k_is | rfl); (case xr3 => first | k_is | rfl); (case xu3 => first | k_is | rfl); (case xv3 => first | k_is | rfl); (case uM => k_is); (case uA => k_is); (case uS => k_is); (case zS => (first | decide | (show 3 ≤ sizeLine; decide))); (case vS => exact .cons ⟨_, rfl⟩ (.cons ⟨_, rfl⟩ (.cons ⟨_, rfl⟩ .nil))); (case uB => k_is); (case uO => k_is); (case kO => exact ⟨⟨_, _, rfl, rfl⟩, ⟨_, _, rfl, rfl⟩, ⟨_, _, rfl, rfl⟩, trivial⟩); (case oP => k_is); (case oM => k_is); (case oZ => k_is); (case tI => (first | rfl | k_is)); (case tN => (first | rfl | k_is)); (case yNC => (first | k_is | rfl)); (case yNM => (first | k_is | rfl)); (case yCN => (first | k_is | rfl)); (case yCM => (first | k_is | rfl)); (case yMN => (first | k_is | rfl)); (case yMC => (first | k_is | rfl)); (case z_abs => k_is); (case z_all => k_is); (case z_bool => k_is); (case z_int => k_is); (case z_isinstance => k_is); (case z_len => k_is); (case z_list => k_is); (case z_range => k_is); (case z_repr => k_is); (case z_str => k_is); (case z_tuple => k_is); (case z_zip => k_is)
