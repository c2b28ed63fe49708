import PyProof.Rows.All
import Wide.All
import OpenK.AllK
import Wide.FinOn
import HandS.ForMost
import HandS.ForExc
import HandS.IsInst
import HandS.Flow
import HandS.Wide
import HandS.WideMore
import HandS.Defaults
import HandS.Style
import HandS.Evl
import HandS.ExcInit
import HandS.ExcField
import HandS.ExcIs
import KE.KExcIs
import KE.SortKeyHeap
import KE.KSortKey
import HandS.SortKw
import PySem.Challenge.RW_roomstair_k14_labels_by_turns
set_option Elab.async false
set_option linter.all false
set_option maxRecDepth 100000
/-! HG: promises of defs that are called while no repr is under way, so that repr's text is known. -/
namespace HG
open PySem PySem.Spec PyProof.Rows L2

/-- as a def's promise, but for calls ahead of which nothing guards -/
structure FnG (P : Program) (w : World) (K : PySem.W.Frag) (mg : Str → Option Value) (base : Heap) (CX : CXT) (k : Nat) (f : Addr) (fd : FuncData) (ps : List Str) (sp : Sp) : Prop where
  len : ∀ vs H Q E, sp vs H Q E → vs.length = ps.length
  go : ∀ (A : Around) (ou : List Env) (s : Shared) (H : Hp) (ar : Args) (us : List Value) (vs : List V) (Q : VK) (E : XK),
    A.guards = some [] → Room k A → Env0 P w K mg base A ou s H → BindsTo s fd ar (ps.zip us) → Vals vs us → sp vs H Q E →
    codeAny (model P w) A (.call (.ref f) ar) (CR CX ou P w H s Q E) s
section
variable {P : Program} {w : World} {K : PySem.W.Frag} {mg : Str → Option Value} {base : Heap} {CX : CXT} {k : Nat} {f : Addr} {fd : FuncData} {ps : List Str} {sp : Sp}
theorem FnG.of (F : FnOk P w K mg base CX k f fd ps sp) : FnG P w K mg base CX k f fd ps sp :=
  ⟨F.len, fun A ou s H ar us vs Q E _ => F.run A ou s H ar us vs Q E⟩
theorem FnG.mono {j : Nat} (F : FnG P w K mg base CX j f fd ps sp) (h : j ≤ k) : FnG P w K mg base CX k f fd ps sp :=
  ⟨F.len, fun A ou s H ar us vs Q E g r => F.go A ou s H ar us vs Q E g (r.mono h)⟩
/-- a def by its body -/
theorem fn_g {x qual : Str} {st : Stmt} {N : List Str} (F : Fun K x qual st f fd) (S : FnScope N ps (defScope st)) (len : ∀ vs H Q E, sp vs H Q E → vs.length = ps.length)
    (hb : ∀ (cdv : Value) (A : Around) (ou : List Env) (s : Shared) (H : Hp) (vs : List V) (Q : VK) (E : XK), (A.deeper (envOfC qual (defScope st) s.heap.objs.size f cdv)).guards = some [] →
      Room k (A.deeper (envOfC qual (defScope st) s.heap.objs.size f cdv)) → sp vs H Q E →
      ∃ t, PSs (cxOf CX P w K mg base N qual (defScope st) f cdv A ou s H E) (defBody st) t ∧ t { nx := fun _ H' => Q .non H', rt := Q } (start N vs) H) :
    FnG P w K mg base CX (k + 1) f fd ps sp := by
  obtain ⟨oc, od, kV, doc, pm, an, cdv, ct, osl, rfl, lk, hcd⟩ := F.ex
  constructor
  · exact len
  intro A ou s H ar us vs Q E g room e0 binds rv q0
  have h1 := len vs H Q E q0
  have h2 : K.In s.heap := e0.mod.kin.keeps (fun b o z => (e0.bs b o z).1)
  have h3 : s.heap.NoLimit := e0.mod.nolimit.keeps (fun b o z => (e0.bs b o z).1)
  have h4 : ∀ y ∈ ps.zip us, (defScope st).names.lookup y.1 = some .local ∨ ((defScope st).names.lookup y.1 = some .cell ∧ ((cellsFrom (s.heap.objs.size + 1) (defScope st).names []).lookup y.1).isSome = true) := by
    intro y hy
    have hm := (List.of_mem_zip (show (y.1, y.2) ∈ ps.zip us from hy)).1
    cases S.par y.1 hm with
    | inl q => exact Or.inl q
    | inr q => exact Or.inr ⟨q, PySem.W.cellsFrom_some _ _ _ (Or.inl q)⟩
  apply codeAny_call_function room.depth (h2 _ _ lk) rfl S.co S.gen rfl (PySem.W.codeRec_of h2 hcd)
  apply binds
  apply wpAny_newFunctionEnv_cells S.kind h4
  intro env heq s1 ic
  cases heq
  refine And.intro (Heap.NoLimit.keeps h3 ic.toInCall.keep) (codeAny_func ?_)
  cases hb cdv A ou s H vs Q E g (Room.deeper room _) q0 with
  | intro t ht =>
    have J0 := inv_start (CX := CX) (E := E) S room.hd e0 h1 rv ic
    apply wpAny_mono (ht.1.run [] s1 (start N vs) H _ J0 ht.2)
    · intro fl s2 z
      cases fl with
      | ret u => exact let ⟨v, _, H2, J, r, q⟩ := z; ⟨v, H2, J.os, J.bare, J.base, J.hok, r, q⟩
      | next => exact let ⟨_, H2, J, q⟩ := z; ⟨V.non, H2, J.os, J.bare, J.base, J.hok, (rfl : Value.none = Value.none), q⟩
      | brk => exact let ⟨_, _, _, q⟩ := z; q.elim
      | cont => exact let ⟨_, _, _, q⟩ := z; q.elim
    · exact fun _ _ z => z
end
section
variable {X : Cx} {CX : CXT} {k : Nat} {f : Addr} {fd : FuncData} {ps : List Str} {sp : Sp} {dvs : List V} {ds : List Value} {E : XK} {x : Str} {p pos : Pos} {e : Expr} {es : List Expr} {t : TA}
theorem go_fn {pins : List (Addr × Obj)} {σ : L2.St} {H : Hp} {s : Shared} {Q : VK} {us : List Value} {vs : List V} (g : X.A.guards = some []) (F : FnG X.prog X.w X.K X.mg X.base CX k f fd ps sp) (hr : Room k X.A) (hb : Binds X.K fd ps ds) (hd : Vals dvs ds) (hx : Passes CX X E)
    (I : Inv X pins σ H s) (r : Vals vs us) (h : sp (vs ++ dvs) H Q E) : wpAny (model X.prog X.w) X.A (call (.ref f) us) (EP X pins σ Q) X.xe s := by
  have rr := Vals.append r hd
  have ln : (us ++ ds).length = ps.length := (Vals.length rr).symm.trans (F.len _ _ _ _ h)
  apply wpAny_call
  apply codeAny_mono (F.go X.A X.stack s H ⟨us, []⟩ (us ++ ds) (vs ++ dvs) Q E g hr I.env0 (hb s us I.kIn ln) rr h)
  intro r s2 z
  cases r with
  | error e => exact hx pins σ H s e s2 I z
  | ok fl =>
    cases fl with
    | ret u => exact Inv.after I z
    | next => exact z.elim
    | brk => exact z.elim
    | cont => exact z.elim
/-- f(e, ..) -/
theorem pe_callG (g : X.A.guards = some []) (F : FnG X.prog X.w X.K X.mg X.base CX k f fd ps sp) (hr : Room k X.A) (hg : Gl X x) (hm : X.mg x = some (.ref f)) (hk : PySem.W.keepIn X.K (.ref f) = true) (hb : Binds X.K fd ps ds) (hd : Vals dvs ds) (hx : Passes CX X E)
    (ha : PA X (e :: es) t) (n1 : (x == ("__debug__" : Str)) = false := by decide) (n2 : starEach (e :: es) X.env = (false, eval e X.env) :: starEach es X.env := by rfl) (n3 : (backTo pos (starEach es X.env)).any (·.1) = false := by rfl) :
    PE X (.Call (.Name x p) (e :: es) [] pos) (tCall sp dvs E t) := by
  constructor
  intro pins s σ H Q I h
  apply wpAny_Call_Name_kw (ld_glob I hg hm _ n1)
  exact PySem.W.callWith_K (h₀ := X.base) I.ok.mod.kin hk (thn (ha.run pos pins s σ H _ I h) (fun us s1 ⟨vs, H1, I1, r, q⟩ => ⟨I1.kIn, go_fn g F hr hb hd hx I1 r q⟩)) n2 n3
/-- repr of plain data -/
def rRepr (K : PySem.W.Frag) : List V → Hp → VK → Prop := fun xs H Q => ∃ x d, xs = [x] ∧ Dp K H x d ∧ d.showable = true ∧ d.hasDict = false ∧ d.depth ≤ 30 ∧ d.shown.length ≤ sizeLine ∧ Q (.str d.shown) H
theorem call_repr (g : X.A.guards = some []) (hu : X.A.units + 64 < cLine) : CallR X (.builtin "repr") (rRepr X.K) := by
  intro pins s σ H xs us Q I r h
  obtain ⟨x, d, rfl, hd, hs, hn, hp, hz, q⟩ := h
  obtain ⟨u, rfl, r1⟩ := vals1 r
  obtain ⟨as, rd⟩ := Dp.reads I d x u hd r1
  cases d with
  | none =>
    cases hd
    cases (show u = Value.none from r1)
    exact PySem.P.repr_of_none ⟨.str _, H, I.tok _, ⟨_, rfl⟩, q⟩
  | bool b =>
    cases hd
    cases (show u = Value.bool b from r1)
    exact PySem.P.repr_of_bool ⟨.str _, H, I.tok _, ⟨_, rfl⟩, q⟩
  | int i =>
    cases hd
    obtain ⟨t, rfl⟩ := (show ∃ t, u = Value.int i t from r1)
    exact PySem.P.repr_of_int (of_decide_eq_true hs) ⟨.str _, H, I.tok _, ⟨_, rfl⟩, q⟩
  | str z =>
    cases hd
    obtain ⟨t, rfl⟩ := (show ∃ t, u = Value.str z t from r1)
    exact PySem.P.repr_of_str ⟨.str _, H, I.tok _, ⟨_, rfl⟩, q⟩ hz
  | list ds =>
    cases hd
    cases (show u = Value.ref _ from r1)
    exact repr_of_reads' rd hs (PyData.noDict_hsm hn) g (by omega) (fun _ _ z => z) (fun h2 u2 tk kp => ⟨.str _, H, I.kept kp, ⟨_, rfl⟩, q⟩) hz
  | tuple ds =>
    cases hd
    cases (show u = Value.ref _ from r1)
    exact repr_of_reads' rd hs (PyData.noDict_hsm hn) g (by omega) (fun _ _ z => z) (fun h2 u2 tk kp => ⟨.str _, H, I.kept kp, ⟨_, rfl⟩, q⟩) hz
  | dict kvs => cases hd
end
/-- the script's place, as the law's def finds it: among the module's own objects, or locked -/
def ScrH (K : PySem.W.Frag) (a : Addr) (vs : List Value) (ns : List Int) : Hp := fun b =>
  if b = a ∧ K.lookup a = none then some (.frz { cls := .type "list", data := .seq vs.toArray } (.lst (ns.map V.int))) else none
theorem scrH_some {K : PySem.W.Frag} {a b : Addr} {vs : List Value} {ns : List Int} {u : HO} (h : ScrH K a vs ns b = some u) : b = a ∧ K.lookup a = none ∧ u = .frz { cls := .type "list", data := .seq vs.toArray } (.lst (ns.map V.int)) := by
  unfold ScrH at h
  by_cases q : b = a ∧ K.lookup a = none
  · rw [if_pos q] at h
    exact ⟨q.1, q.2, (Option.some.inj h).symm⟩
  · rw [if_neg q] at h
    cases h
theorem law_g {P : Program} {w : World} {K : PySem.W.Frag} {mg mb : Str → Option Value} {CX : CXT} {k : Nat} {fa a : Addr} {fd : FuncData} {x : Str} {sp : Sp} {s₁ : Shared} {vs : List Value} {ns : List Int}
    (KX : K.In s₁.heap) (n1 : s₁.heap.Ns mainGlobals mg) (n2 : s₁.heap.Ns builtinsNs mb) (n3 : ∀ x : Str, x ≠ "__name__" → mb x = bootBuiltins x) (n4 : s₁.heap.NoLimit) (n5 : s₁.gens = #[])
    (ha : s₁.heap.get? a = some { cls := .type "list", data := .seq vs.toArray }) (hi : IntsAre vs ns) (hl : ns.length ≤ sizeLine) (hr : Room k callerA)
    (F : ∀ base : Heap, K.In base → base.Ns mainGlobals mg → FnG P w K mg base CX k fa fd [x] sp) (bi : ∀ (s : Shared) (u : Value), BindsTo s fd ⟨[u], []⟩ [(x, u)])
    (hsp : ∀ H : Hp, Only H → SqL K H a (ns.map V.int) → sp [.ref a] H (fun v _ => v = .bl true) fun _ _ _ => False)
    (hCX : ∀ H e s', CX [] H s₁ (fun _ _ _ => False) e s' → False) :
    codeAny (model P w) callerA (.call (.ref fa) ⟨[.ref a], []⟩) (fun r s' => r = .ok (.ret (.bool true)) ∧ OldK s₁.heap s'.heap ∧ s'.os = s₁.os ∧ AllBare s'.gens) s₁ := by
  have rv := vals_ints hi
  have lv := hi.length
  let H : Hp := ScrH K a vs ns
  have hH : ∀ {b : Addr} {u : HO}, H b = some u → b = a ∧ K.lookup a = none ∧ u = .frz { cls := .type "list", data := .seq vs.toArray } (.lst (ns.map V.int)) := fun h => scrH_some h
  have hO : Only H := fun b => by
    cases q : H b with
    | none => exact .inl rfl
    | some u => exact .inr ⟨_, _, congrArg some (hH q).2.2⟩
  have hS : SqL K H a (ns.map V.int) := by
    cases hk : K.lookup a with
    | none => exact .inl (.inr ⟨_, if_pos ⟨rfl, hk⟩⟩)
    | some o =>
      have e := KX a o hk
      rw [ha] at e
      cases e
      exact .inr ⟨_, vs.toArray, _, hk, rfl, rfl, rfl, by rw [List.size_toArray, lv]; exact hl, by simpa using rv⟩
  have hok : HOk P w H s₁.heap := fun b u q => by
    obtain ⟨rfl, _, rfl⟩ := hH q
    exact ⟨ha, by rw [List.length_map]; exact hl, vs, _, rv, ha⟩
  have dictFree : ∀ {b : Addr} {o : Obj} {es : Array DictEntry} {ep : Nat}, s₁.heap.get? b = some o → o.data = .dict es ep → H b = none := fun {b o es ep} z d => by
    cases q : H b with
    | none => rfl
    | some u =>
      obtain ⟨rfl, _, _⟩ := hH q
      rw [ha] at z
      cases z
      exact nomatch d
  have ns' : ∀ {b : Addr} {m : Str → Option Value}, s₁.heap.Ns b m → (hidT s₁.heap H).Ns b m := fun ⟨o, es, ep, z, d, r⟩ => ⟨o, es, ep, hidT_get z (dictFree z d), d, r⟩
  have kin : K.In (hidT s₁.heap H) := fun b o z => hidT_get (KX b o z) (by
    cases q : H b with
    | none => rfl
    | some u =>
      obtain ⟨rfl, y, _⟩ := hH q
      rw [y] at z
      cases z)
  have lim : (hidT s₁.heap H).NoLimit := let ⟨mc, y1, y2⟩ := n4; ⟨mc, ns' y1, y2⟩
  have e0 : Env0 P w K mg (hidT s₁.heap H) callerA [] s₁ H :=
    { frames := rfl, mod := ⟨kin, ns' n1, ⟨mb, ns' n2, n3⟩, lim⟩, bs := fun b o z => of_hidT z, bsz := Nat.le_of_eq (hidT_size _ _), funs := trivial, frf := fun b hb => (List.not_mem_nil hb).elim, hok := hok, bare := .of_eq n5 }
  apply codeAny_mono ((F _ kin (ns' n1)).go callerA [] s₁ H ⟨[.ref a], []⟩ [.ref a] [.ref a] _ _ rfl hr e0 (bi s₁ (.ref a)) (.cons rfl .nil) (hsp H hO hS))
  intro r s2 z
  cases r with
  | error e => exact (hCX H e s2 z).elim
  | ok fl =>
    cases fl with
    | next => exact z.elim
    | brk => exact z.elim
    | cont => exact z.elim
    | ret u =>
      obtain ⟨v, H2, os, bare, un, hok2, r2, q⟩ := z
      cases (show v = .bl true from q)
      cases (show u = Value.bool true from r2)
      refine And.intro rfl (And.intro (OldK.of_keep fun b o y => ?_) (And.intro os bare))
      cases qb : H b with
      | none => exact un.keep b o y qb List.not_mem_nil List.not_mem_nil
      | some u =>
        obtain ⟨rfl, _, rfl⟩ := hH qb
        have y2 := (hok2 b _ (un.frzs b _ _ qb)).1
        rw [ha] at y
        cases y
        exact y2
theorem walk_g {l : PySem.W.OpenLaw} {n k : Nat} {q : Program} {loose : List Str} {XP : (Str → Option Value) → Heap → Prop} {YP : World → Heap → Prop} {d : DefRec} {K : Params → PySem.W.Frag} {CX : World → CXT} {sp : World → Sp} {x : Str}
    (hn : l.most = some n) (hn2 : n ≤ sizeLine) (hdf : d.params.defaults = []) (hr : Room k callerA)
    (hY : ∀ (w : World) (h : Heap), YP w h → (K w.params).In h)
    (F : ∀ (w : World) (mg : Str → Option Value) (fa : Addr) (h : Heap), (K w.params).In h → h.Ns mainGlobals mg → mg d.name = some (.ref fa) →
      ∃ fd : FuncData, (∀ (s : Shared) (u : Value), BindsTo s fd ⟨[u], []⟩ [(x, u)]) ∧
        ∀ base : Heap, (K w.params).In base → base.Ns mainGlobals mg → FnG l.prog w (K w.params) mg base (CX w) k fa fd [x] (sp w))
    (hsp : ∀ (w : World) (H : Hp) (a : Addr) (ns : List Int), ns.length ≤ n → Only H → SqL (K w.params) H a (ns.map V.int) → sp w [.ref a] H (fun v _ => v = .bl true) fun _ _ _ => False)
    (hCX : ∀ (w : World) (H : Hp) (s : Shared) (e : Value) (s' : Shared), CX w [] H s (fun _ _ _ => False) e s' → False) :
    PySem.W.WalkO q loose XP YP l.row.toRowW d [] (fun f vs => PySem.call f vs) := by
  apply Att.attach_call hn hdf
  intro w s₀ s₁ mg mb fa o pm cd doc a vs ns G Y _ _ _ hmg ho hi hl hg
  cases F w mg fa _ (hY w _ Y) G.T.g hmg with
  | intro fd z => exact law_g (hY w _ Y) G.T.g G.T.b G.T.builtins G.T.nolimit hg ho hi (Nat.le_trans hl hn2) hr z.2 z.1 (fun H y1 y2 => hsp w H a ns hl y1 y2) (fun H e s2 => hCX w H s₁ e s2)

/-! ### short words -/
section
variable {P : Program} {w : World} {K : PySem.W.Frag} {mg : Str → Option Value} {base : Heap}
/-- as fn_g, for a def that lets nothing out -/
theorem fn_g0 {k : Nat} {f : Addr} {fd : FuncData} {ps : List Str} {sp : Sp} {x qual : Str} {st : Stmt} {N : List Str} (F : Fun K x qual st f fd) (S : FnScope N ps (defScope st)) (len : ∀ vs H Q E, sp vs H Q E → vs.length = ps.length)
    (hb : ∀ (cdv : Value) (A : Around) (ou : List Env) (s : Shared) (H : Hp) (vs : List V) (Q : VK) (E : XK), (A.deeper (envOfC qual (defScope st) s.heap.objs.size f cdv)).guards = some [] →
      Room k (A.deeper (envOfC qual (defScope st) s.heap.objs.size f cdv)) → sp vs H Q E →
      ∃ t, PSs (cxOf CX0 P w K mg base N qual (defScope st) f cdv A ou s H E).nox (defBody st) t ∧ t { nx := fun _ H' => Q .non H', rt := Q } (start N vs) H) :
    FnG P w K mg base CX0 (k + 1) f fd ps sp := by
  apply fn_g F S len
  intro cdv A ou s H vs Q E g r q
  cases hb cdv A ou s H vs Q E g r q with
  | intro t z => exact ⟨t, PSs.nox z.1, z.2⟩
/-- a def as the top left it, with its promise -/
structure Df (P : Program) (w : World) (K : PySem.W.Frag) (mg : Str → Option Value) (base : Heap) (CX : CXT) (k : Nat) (x : Str) (ps : List Str) (sp : Sp) where
  f : Addr
  fd : FuncData
  ok : FnOk P w K mg base CX k f fd ps sp
  m : mg x = some (.ref f)
  kp : PySem.W.keepIn K (.ref f) = true
  b : Binds K fd ps []
/-- a def as the top left it -/
structure Tp (K : PySem.W.Frag) (mg : Str → Option Value) (x : Str) (st : Stmt) (ps : List Str) where
  f : Addr
  fd : FuncData
  F : Fun K x x st f fd
  m : mg x = some (.ref f)
  b : Binds K fd ps []
def Tp.df {x : Str} {st : Stmt} {ps : List Str} {CX : CXT} {k : Nat} {sp : Sp} (T : Tp K mg x st ps) (F : FnOk P w K mg base CX k T.f T.fd ps sp) : Df P w K mg base CX k x ps sp := ⟨T.f, T.fd, F, T.m, T.F.kp, T.b⟩
def tp_mk {h : Heap} {x : Str} {st : Stmt} {ps : List Str} {f : Addr} {oc kV doc pm cdv ct : Value} {od an : Option Addr} {osl : Array (Option Value)} (X : K.In h) (G : h.Ns mainGlobals mg) (a : PySem.W.nsIn K mainGlobals x = some (some (.ref f)))
    (l : K.lookup f = some ⟨oc, od, .func (PySem.W.fnOf x x (defArgs st) (defBody st) (defScope st) .none kV doc pm an cdv ct), osl⟩) (c : PySem.W.codeIn K cdv x = true) (k : PySem.W.keepIn K (.ref f) = true)
    (hb : ∀ (kV doc pm : Value) (an : Option Addr) (cdv ct : Value) (us : List Value), us.length = ps.length → bindArgs (PySem.W.fnOf x x (defArgs st) (defBody st) (defScope st) .none kV doc pm an cdv ct) ⟨us, []⟩ = pure (ps.zip us)) : Tp K mg x st ps :=
  ⟨f, _, fun_mk l c k, PySem.W.mg_of X G a, (fun_mk l c k).binds hb⟩
/-- how a call with keywords alone binds -/
theorem kbn {x : Str} {st : Stmt} {ps ks : List Str} (n : Nat) (T : Tp K mg x st ps) (g : {α : Type} → List α → List α → List α)
    (hrel : ∀ {vs : List V} {us : List Value} {zs : List V} {ws : List Value}, Vals vs us → Vals zs ws → Vals (g vs zs) (g us ws))
    (h : ∀ (kV doc pm : Value) (an : Option Addr) (cdv ct : Value) (us ws : List Value), us.length = n → ws.length = ks.length →
      bindArgs (PySem.W.fnOf x x (defArgs st) (defBody st) (defScope st) .none kV doc pm an cdv ct) ⟨us, ks.zip ws⟩ = pure (ps.zip (g us ws))) : KBn K T.fd ps n ks g g := by
  obtain ⟨oc, od, kV, doc, pm, an, cdv, ct, osl, e, _, _⟩ := T.F.ex
  exact ⟨fun s us ws _ l1 l2 => by rw [e]; exact .of_eq (h kV doc pm an cdv ct us ws l1 l2), fun r1 r2 => hrel r1 r2⟩
end
section
variable {X : Cx} {CX : CXT} {k j : Nat} {ps ks : List Str} {sp : Sp} {x : Str} {p pos : Pos} {e : Expr} {es : List Expr} {kws : List Keyword} {t tk : TA} {g : List Value → List Value → List Value} {gV : List V → List V → List V}
theorem p0 {E : XK} : Passes CX0 X E := fun _ _ _ _ _ _ _ h => h.elim
theorem pe_c (o : Df X.prog X.w X.K X.mg X.base CX0 k x ps sp) (hr : Room j X.A) (ha : PA X (e :: es) t) (hk : k ≤ j := by decide) (hg : Gl X x := by rfl)
    (n1 : (x == ("__debug__" : Str)) = false := by decide) (n2 : starEach (e :: es) X.env = (false, eval e X.env) :: starEach es X.env := by rfl) (n3 : (backTo pos (starEach es X.env)).any (·.1) = false := by rfl) :
    PE X (.Call (.Name x p) (e :: es) [] pos) (tCall sp [] E0 t) := pe_call o.ok (hr.mono hk) hg o.m o.kp o.b .nil p0 ha n1 n2 n3
theorem pe_c0 (o : Df X.prog X.w X.K X.mg X.base CX0 k x ps sp) (hr : Room j X.A) (hk : k ≤ j := by decide) (hg : Gl X x := by rfl)
    (n1 : (x == ("__debug__" : Str)) = false := by decide) : PE X (.Call (.Name x p) [] [] pos) (tCall sp [] E0 tNil) := pe_call0 o.ok (hr.mono hk) hg o.m o.kp o.b .nil p0 n1
/-- f(k = v, ..) -/
theorem pe_cK0 (o : Df X.prog X.w X.K X.mg X.base CX0 k x ps sp) (hb : KBn X.K o.fd ps 0 ks g gV) (hr : Room j X.A) (hw : PK X kws tk) (hk : k ≤ j := by decide) (hg : Gl X x := by rfl)
    (n0 : (backToKw pos (keywordEach kws X.env)).all (·.1.isSome) = true := by rfl) (n1 : (backToKw pos (keywordEach kws X.env)).filterMap (·.1) = ks := by rfl) (n2 : (x == ("__debug__" : Str)) = false := by decide)
    (n3 : ((backTo pos (starEach [] X.env)).any (·.1) || (backToKw pos (keywordEach kws X.env)).any (·.1.isNone)) = false := by rfl) :
    PE X (.Call (.Name x p) [] kws pos) (tCallN 0 ks.length sp gV E0 tNil tk) := by
  constructor
  intro pins s σ H Q I h
  apply wpAny_Call_Name_kw (ld_glob I hg o.m _ n2)
  apply PySem.W.callWith_KW0 (h₀ := X.base) I.ok.mod.kin o.kp n0 _ n3
  refine thn (hw.run pos pins s σ H _ I h) (fun ws s2 z => ?_)
  obtain ⟨zs, H2, J, rz, l1, l2, q⟩ := z
  refine And.intro J.kIn ?_
  rw [n1]
  exact run_fnN (us := []) (vs := []) o.ok (hr.mono hk) hb p0 J .nil rz rfl l2 q
/-- a def that may raise, where it does not -/
theorem pe_cL (o : Df X.prog X.w X.K X.mg X.base (L2.CX X.prog X.w) k x ps sp) (hr : Room j X.A) (ha : PA X (e :: es) t) (hk : k ≤ j := by decide) (hg : Gl X x := by rfl)
    (n1 : (x == ("__debug__" : Str)) = false := by decide) (n2 : starEach (e :: es) X.env = (false, eval e X.env) :: starEach es X.env := by rfl) (n3 : (backTo pos (starEach es X.env)).any (·.1) = false := by rfl) :
    PE X (.Call (.Name x p) (e :: es) [] pos) (tCall sp [] E0 t) := pe_call o.ok (hr.mono hk) hg o.m o.kp o.b .nil passL ha n1 n2 n3
theorem pe_cKL0 (o : Df X.prog X.w X.K X.mg X.base (L2.CX X.prog X.w) k x ps sp) (hb : KBn X.K o.fd ps 0 ks g gV) (hr : Room j X.A) (hw : PK X kws tk) (hk : k ≤ j := by decide) (hg : Gl X x := by rfl)
    (n0 : (backToKw pos (keywordEach kws X.env)).all (·.1.isSome) = true := by rfl) (n1 : (backToKw pos (keywordEach kws X.env)).filterMap (·.1) = ks := by rfl) (n2 : (x == ("__debug__" : Str)) = false := by decide)
    (n3 : ((backTo pos (starEach [] X.env)).any (·.1) || (backToKw pos (keywordEach kws X.env)).any (·.1.isNone)) = false := by rfl) :
    PE X (.Call (.Name x p) [] kws pos) (tCallN 0 ks.length sp gV E0 tNil tk) := by
  constructor
  intro pins s σ H Q I h
  apply wpAny_Call_Name_kw (ld_glob I hg o.m _ n2)
  apply PySem.W.callWith_KW0 (h₀ := X.base) I.ok.mod.kin o.kp n0 _ n3
  refine thn (hw.run pos pins s σ H _ I h) (fun ws s2 z => ?_)
  obtain ⟨zs, H2, J, rz, l1, l2, q⟩ := z
  refine And.intro J.kIn ?_
  rw [n1]
  exact run_fnN (us := []) (vs := []) o.ok (hr.mono hk) hb passL J .nil rz rfl l2 q
/-- a def that may raise, within a try -/
theorem pe_cS {W : WX} (o : Df X.prog X.w X.K X.mg X.base (L2.CX X.prog X.w) k x ps sp) (hr : Room j X.A) (tk : Takes X W) (ha : PA X (e :: es) t) (hk : k ≤ j := by decide) (hg : Gl X x := by rfl)
    (n1 : (x == ("__debug__" : Str)) = false := by decide) (n2 : starEach (e :: es) X.env = (false, eval e X.env) :: starEach es X.env := by rfl) (n3 : (backTo pos (starEach es X.env)).any (·.1) = false := by rfl) :
    PE X (.Call (.Name x p) (e :: es) [] pos) (tCallS sp (WE W) t) := pe_callS o.ok (hr.mono hk) hg o.m o.kp o.b (fun σ => passAt tk σ) ha n1 n2 n3
theorem pe_ty {T : String} (hg : Gl X x) (hm : X.mg x = none) (hv : bootBuiltins x = some (.type T)) (hn : x ≠ "__name__" := by decide) (hd : (x == ("__debug__" : Str)) = false := by decide) : PE X (.Name x pos) (tC (.ty T)) :=
  pe_bltn hg hm hv rfl hn hd
end
/-! ### heaps -/
/-- what stands at other places than g still stands -/
def Kp (g : Addr) (H H' : Hp) : Prop := ∀ p o, p ≠ g → H p = some o → H' p = some o
theorem Kp.refl {g : Addr} {H : Hp} : Kp g H H := fun _ _ _ h => h
theorem Kp.trans {g : Addr} {H H1 H2 : Hp} (a : Kp g H H1) (b : Kp g H1 H2) : Kp g H H2 := fun p o n h => b p o n (a p o n h)
theorem Kp.new {g p : Addr} {H : Hp} {o : HO} (h : H p = none) : Kp g H (upd H p o) := fun q u _ e => by rw [upd_ne (ne_of_none e h)]; exact e
theorem Kp.at {g : Addr} {H : Hp} {o : HO} : Kp g H (upd H g o) := fun q u n e => by rw [upd_ne n]; exact e
theorem Kp.seq {g a : Addr} {H H' : Hp} {K : PySem.W.Frag} {xs : List V} (k : Kp g H H') (n : a ≠ g) (h : SqL K H a xs) : SqL K H' a xs := by
  rcases h with (h | ⟨o, h⟩) | h
  · exact .inl (.inl (k _ _ n h))
  · exact .inl (.inr ⟨o, k _ _ n h⟩)
  · exact .inr h
end HG
/-! HD: a law's draws: the gauge (a list of the cells, how many were read, what is left), the facts about numbers. -/
namespace HD
open PySem PySem.Spec PyProof.Rows L2
/-- the gauge at g, its cells at c -/
structure Gau (H : Hp) (g c : Addr) (ns : List Int) (at_ rest : Int) : Prop where
  g : H g = some (.lst [.ref c, .int at_, .int rest])
  c : H c = some (.lst (ns.map V.int))
  a0 : 0 ≤ at_
  r0 : 0 ≤ rest
  len : ns.length ≤ 63
theorem Gau.ne {H : Hp} {g c : Addr} {ns : List Int} {a r : Int} (G : Gau H g c ns a r) : c ≠ g := fun e => by
  have h := G.g
  rw [← e, G.c] at h
  have h2 := HO.lst.inj (Option.some.inj h)
  cases ns with
  | nil => cases h2
  | cons x r => exact nomatch (List.cons.inj h2).1
theorem Gau.kp {H H' : Hp} {g c : Addr} {ns : List Int} {a r : Int} {q : Addr} (G : Gau H g c ns a r) (k : HG.Kp q H H') (n1 : g ≠ q) (n2 : c ≠ q) : Gau H' g c ns a r := ⟨k _ _ n1 G.g, k _ _ n2 G.c, G.a0, G.r0, G.len⟩
theorem Gau.new {H : Hp} {g c p : Addr} {o : HO} {ns : List Int} {a r : Int} (G : Gau H g c ns a r) (n : H p = none) : Gau (upd H p o) g c ns a r :=
  ⟨by rw [upd_ne (ne_of_none G.g n)]; exact G.g, by rw [upd_ne (ne_of_none G.c n)]; exact G.c, G.a0, G.r0, G.len⟩
theorem Gau.put {H : Hp} {g c : Addr} {ns : List Int} {a r a' r' : Int} {o : HO} (G : Gau H g c ns a r) (e : o = .lst [.ref c, .int a', .int r']) (h1 : 0 ≤ a') (h2 : 0 ≤ r') : Gau (upd H g o) g c ns a' r' :=
  ⟨by rw [upd_same, e], by rw [upd_ne G.ne]; exact G.c, h1, h2, G.len⟩
/-- behind a draw or more of them: the gauge stands, all else too; n: how many were drawn at most -/
structure Drew (g c : Addr) (ns : List Int) (n : Int) (H : Hp) (a : Int) (H' : Hp) : Prop where
  ex : ∃ a' r', Gau H' g c ns a' r' ∧ a' ≤ a + n
  kp : HG.Kp g H H'
/-- what a draw promises: 0 to many - 1 -/
def spDraw : Sp := fun vs H Q _ => ∃ g c ns a r many, vs = [.ref g, .int many] ∧ Gau H g c ns a r ∧ 0 < many ∧ many < 1000000 ∧ a < 1000000 ∧
  ∀ x a' r' H', 0 ≤ x → x < many → a' ≤ a + 1 → Gau H' g c ns a' r' → HG.Kp g H H' → Q (.int x) H'
/-- one of a list -/
def spOne (K : PySem.W.Frag) : Sp := fun vs H Q _ => ∃ g c ns a r l xs, vs = [.ref g, .ref l] ∧ Gau H g c ns a r ∧ a < 1000000 ∧ l ≠ g ∧ SqL K H l xs ∧ xs ≠ [] ∧ xs.length < 1000000 ∧
  ∀ x a' r' H', x ∈ xs → a' ≤ a + 1 → Gau H' g c ns a' r' → HG.Kp g H H' → Q x H'
theorem fdiv_nn {a b : Int} (h1 : 0 ≤ a) (h2 : 0 < b) : 0 ≤ a.fdiv b := by
  rw [Int.fdiv_eq_ediv_of_nonneg _ (Int.le_of_lt h2)]
  exact Int.ediv_nonneg h1 (Int.le_of_lt h2)
theorem fmod_nn {a b : Int} (h2 : 0 < b) : 0 ≤ a.fmod b := by
  rw [Int.fmod_eq_emod_of_nonneg _ (Int.le_of_lt h2)]
  exact Int.emod_nonneg _ (Int.ne_of_gt h2)
theorem fmod_lt {a b : Int} (h2 : 0 < b) : a.fmod b < b := by
  rw [Int.fmod_eq_emod_of_nonneg _ (Int.le_of_lt h2)]
  exact Int.emod_lt_of_pos _ h2
theorem shaped_ints (ns : List Int) : SeqAt.shaped (.list (ns.map PyData.int)) = true := by
  have h1 : PyData.canLayAll0 (ns.map PyData.int) = true := by
    induction ns with
    | nil => rfl
    | cons x r ih => rw [List.map_cons]; simp only [PyData.canLayAll0, PyData.canLay0, Bool.true_and]; exact ih
  have h2 : PyData.depthAll (ns.map PyData.int) = 0 := by
    induction ns with
    | nil => rfl
    | cons x r ih =>
      rw [List.map_cons]
      simp only [PyData.depthAll, PyData.depth]
      have h3 : PyData.canLayAll0 (r.map PyData.int) = true := by
        rw [List.map_cons] at h1
        simp only [PyData.canLayAll0, PyData.canLay0, Bool.true_and] at h1
        exact h1
      rw [ih h3]
      rfl
  unfold SeqAt.shaped
  simp only [PyData.canLay0, PyData.depth, h1, h2]
  rfl
theorem dp_ints {K : PySem.W.Frag} {H : Hp} : ∀ (ns : List Int), DpAll K H (ns.map V.int) (ns.map PyData.int)
  | [] => .nil
  | x :: r => .cons (.int x) (dp_ints r)
theorem eqv_nil (ns : List Int) : PyData.eqv (.list (ns.map PyData.int)) (.list []) = decide (ns = []) := by
  cases ns with
  | nil => simp only [List.map_nil, PyData.eqv, PyData.eqvAll]; rfl
  | cons x r => simp only [List.map_cons, PyData.eqv, PyData.eqvAll]; rfl
/-- a number mod a small number, and more: still small -/
theorem small_pow {x a : Int} {m k l : Int} (h1 : 0 ≤ x) (h2 : x < m) (h3 : 0 ≤ a) (h4 : a < 1000000) (hm : m ≤ 4000000000) (hk : 0 ≤ k) (hk2 : k ≤ 100000) (hl : 0 ≤ l) (hl2 : l ≤ 1000000) : (x + k * a + l).natAbs < 2 ^ 64 := by
  have h5 : k * a ≤ 100000 * 1000000 := Int.mul_le_mul hk2 (Int.le_of_lt h4) h3 (by decide)
  have h6 : 0 ≤ k * a := Int.mul_nonneg hk h3
  have h7 : (2 : Nat) ^ 64 = 18446744073709551616 := by decide
  omega
theorem small_pow2 {x a : Int} {m k l b : Int} (h1 : 0 ≤ x) (h2 : x < m) (h3 : 0 ≤ a) (h4 : a < 1000000) (hm : m ≤ 4000000000) (hk : 0 ≤ k) (hk2 : k ≤ 100000) (hl : 0 ≤ l) (hl2 : l ≤ 1000000) (hb : 0 ≤ b) (hb2 : b ≤ 1000000) :
    (x * (2 * a + b) + k * a * a + l).natAbs < 2 ^ 64 := by
  have h5 : k * a ≤ 100000 * 1000000 := Int.mul_le_mul hk2 (Int.le_of_lt h4) h3 (by decide)
  have h6 : 0 ≤ k * a := Int.mul_nonneg hk h3
  have h7 : (k * a) * a ≤ (100000 * 1000000) * 1000000 := Int.mul_le_mul h5 (Int.le_of_lt h4) h3 (by decide)
  have h8 : 0 ≤ (k * a) * a := Int.mul_nonneg h6 h3
  have h9 : x * (2 * a + b) ≤ 4000000000 * 3000000 := Int.mul_le_mul (by omega) (by omega) (by omega) (by decide)
  have h10 : 0 ≤ x * (2 * a + b) := Int.mul_nonneg h1 (by omega)
  have h11 : (2 : Nat) ^ 64 = 18446744073709551616 := by decide
  omega
theorem abs_ge {c : Int} {k : Int} (h : k ≤ (if c < 0 then -c else c)) (b : Int) (hb : 0 ≤ b) : 0 ≤ 2 * ((if c < 0 then -c else c) - k) + b := by omega
/-- the other way first: it may be wanted twice -/
theorem iteS {c A B : Prop} [Decidable c] (hb : B) (ha : c → B → A) : if c then A else B := by
  by_cases h : c
  · rw [if_pos h]
    exact ha h hb
  · rw [if_neg h]
    exact hb
theorem cell_at {ns : List Int} (hl : 0 < ns.length) (a : Int) : ∃ x, atI (ns.map V.int) (a % (ns.length : Int)) = some (.int x) := by
  have h3 := Int.emod_nonneg a (show (ns.length : Int) ≠ 0 by omega)
  have h4 := Int.emod_lt_of_pos a (show (0 : Int) < ns.length by omega)
  have il : (a % (ns.length : Int)).toNat < ns.length := by omega
  refine ⟨ns[(a % (ns.length : Int)).toNat], ?_⟩
  have e := atI_nat (xs := ns.map V.int) (j := (a % (ns.length : Int)).toNat) (v := .int (ns[(a % (ns.length : Int)).toNat])) (by rw [List.getElem?_map, List.getElem?_eq_getElem il]; rfl)
  rw [Int.toNat_of_nonneg h3] at e
  exact e
theorem cutV_ints (ns : List Int) (lo hi : Option Int) : ∃ ms : List Int, cutV (ns.map V.int) lo hi = ms.map V.int ∧ ms.length ≤ ns.length := by
  refine ⟨(ns.drop (HT.sIx (ns.map V.int).length 0 lo)).take (HT.sIx (ns.map V.int).length (ns.map V.int).length hi - HT.sIx (ns.map V.int).length 0 lo), ?_, ?_⟩
  · unfold cutV
    rw [List.map_take, List.map_drop]
  · rw [List.length_take, List.length_drop]
    omega
/-- the gauge of a script -/
def spGauge (K : PySem.W.Frag) : Sp := fun vs H Q _ => ∃ (s : Addr) (ns : List Int), vs = [.ref s] ∧ SqL K H s (ns.map V.int) ∧ ns.length ≤ 63 ∧
  ∀ (g c : Addr) (ms : List Int) (H' : Hp), H g = none → H c = none → Gau H' g c ms 0 0 → (∀ p o, H p = some o → H' p = some o) → Q (.ref g) H'
theorem get_map {α β : Type} {f : α → β} {xs : List α} {i : Nat} {y : β} (h : (xs.map f)[i]? = some y) : ∃ x, xs[i]? = some x ∧ y = f x := by
  rw [List.getElem?_map] at h
  cases e : xs[i]? with
  | none => rw [e] at h; cases h
  | some x => rw [e] at h; exact ⟨x, rfl, (Option.some.inj h).symm⟩
theorem take_snoc {α : Type} {xs : List α} {i : Nat} {x : α} (h : xs[i]? = some x) : xs.take (i + 1) = xs.take i ++ [x] := by
  rw [List.take_add_one, h]
  rfl
theorem stay {H : Hp} {p q : Addr} {o u : HO} (n : H q = none) (h : H p = some u) : upd H q o p = some u := by
  rw [upd_ne (ne_of_none h n)]
  exact h
theorem log_of {n : Nat} (h : n < 2 ^ 1900) : n.log2 < 1920 := by
  by_cases e : n = 0
  · subst e
    decide
  · exact Nat.lt_of_lt_of_le ((Nat.log2_lt e).mpr h) (by decide)
theorem small_pow200 {n : Nat} (h : n < 10 ^ 50) : n < 2 ^ 1900 := Nat.lt_of_lt_of_le h (by decide +kernel)
/-- some list, tuple or dict stands at p -/
def Box (H : Hp) (p : Addr) : Prop := (∃ xs, H p = some (.lst xs)) ∨ (∃ xs, H p = some (.tup xs)) ∨ ∃ k, H p = some (.dK k)
theorem Box.kp {H H' : Hp} {g p : Addr} (b : Box H p) (k : HG.Kp g H H') (n : p ≠ g) : Box H' p := by
  rcases b with ⟨x, h⟩ | ⟨x, h⟩ | ⟨x, h⟩
  · exact .inl ⟨x, k _ _ n h⟩
  · exact .inr (.inl ⟨x, k _ _ n h⟩)
  · exact .inr (.inr ⟨x, k _ _ n h⟩)
/-- a value that is an int, or plainly none -/
def AnyV (H : Hp) (g : Addr) (v : V) : Prop := (∃ i, v = .int i) ∨ v = .non ∨ (∃ b, v = .bl b) ∨ (∃ x, v = .str x) ∨ ∃ p, v = .ref p ∧ p ≠ g ∧ Box H p
theorem AnyV.kp {H H' : Hp} {g : Addr} {v : V} (a : AnyV H g v) (k : HG.Kp g H H') : AnyV H' g v := by
  rcases a with a | a | a | a | ⟨p, e, n, b⟩
  · exact .inl a
  · exact .inr (.inl a)
  · exact .inr (.inr (.inl a))
  · exact .inr (.inr (.inr (.inl a)))
  · exact .inr (.inr (.inr (.inr ⟨p, e, n, b.kp k n⟩)))
end HD
/-! HE: more of what a reading comes to where nothing is written. -/
namespace HE
open PySem PySem.Spec PyProof.Rows L2 Evl
section
variable {σ : L2.St} {H : Hp} {ta tb te : TE} {x y z : V} {K : PySem.W.Frag} {xs : List V} {d : PyData} {ds : List PyData}
/-- data that repr shows -/
structure Shows (d : PyData) : Prop where
  s : d.showable = true
  n : d.hasDict = false
  p : d.depth ≤ 30
  z : d.shown.length ≤ sizeLine
theorem Shows.bool (b : Bool) : Shows (.bool b) := ⟨rfl, rfl, by show 0 ≤ 30; decide, by cases b <;> decide +kernel⟩
theorem Shows.none : Shows .none := ⟨rfl, rfl, by show 0 ≤ 30; decide, by decide +kernel⟩
theorem ev_repr (ha : Ev ta σ H x) (hd : ∀ H1, Ex H H1 → Dp K H1 x d) (h : Shows d) : Ev (tCB (HG.rRepr K) (tCons ta tNil)) σ H (.str d.shown) := fun H1 e Q q =>
  ha H1 e _ fun H2 e2 => ⟨x, d, rfl, hd H2 (e.trans e2), h.s, h.n, h.p, h.z, q H2 e2⟩
theorem ev_reprL (ha : EvL ta σ H xs) (hd : ∀ H1, Ex H H1 → DpAll K H1 xs ds) (h : Shows (.list ds)) : Ev (tCB (HG.rRepr K) (tCons ta tNil)) σ H (.str (PyData.list ds).shown) := fun H1 e Q q =>
  ha H1 e _ fun p H2 _ e2 hp => ⟨.ref p, .list ds, rfl, .lst (SqL.of hp) (hd H2 (e.trans e2)), h.s, h.n, h.p, h.z, q H2 e2⟩
theorem ev_reprU (ha : EvU ta σ H xs) (hd : ∀ H1, Ex H H1 → DpAll K H1 xs ds) (h : Shows (.tuple ds)) : Ev (tCB (HG.rRepr K) (tCons ta tNil)) σ H (.str (PyData.tuple ds).shown) := fun H1 e Q q =>
  ha H1 e _ fun p H2 _ e2 hp => ⟨.ref p, .tuple ds, rfl, .tup (SqT.of hp) (hd H2 (e.trans e2)), h.s, h.n, h.p, h.z, q H2 e2⟩
/-- xs * k -/
theorem el_rep {k : Int} (ha : EvL ta σ H xs) (h1 : 0 ≤ k) (h2 : k < 1000) (h3 : xs.length ≤ 1000) : EvL (tOp rRep ta (tC (.int k))) σ H (List.replicate k.toNat xs).flatten := fun H1 e Q q =>
  ha H1 e _ fun p H2 n2 e2 hp => ⟨p, k, xs, rfl, rfl, hp, by omega, by omega, Nat.le_trans (Nat.mul_le_mul h3 (show k.toNat ≤ 1000 by omega)) (by decide +kernel), fun r hr => q r _ (fresh_back e2 hr) (e2.trans (Ex.new hr)) upd_same⟩
theorem rv_isN : RV (fun x y H Q => y = .non ∧ Q (.bl (decide (x = .non))) H) x .non H (.bl (decide (x = .non))) := fun H1 _ _ q => ⟨rfl, q H1 (Ex.refl H1)⟩
theorem rv_notN : RV (fun x y H Q => y = .non ∧ Q (.bl (!decide (x = .non))) H) x .non H (.bl (!decide (x = .non))) := fun H1 _ _ q => ⟨rfl, q H1 (Ex.refl H1)⟩
/-- f(k = v, ..) -/
theorem ev_callN {sp : Sp} {n m : Nat} {vs zs : List V} {gV : List V → List V → List V} {E : XK} {t tk : TA} (h1 : EvA t σ H vs) (h2 : EvA tk σ H zs) (l1 : vs.length = n) (l2 : zs.length = m) (hs : SpV sp (gV vs zs) H z) : Ev (tCallN n m sp gV E t tk) σ H z := fun H1 e Q q =>
  h1 H1 e _ fun H2 e2 => h2 H2 (e.trans e2) _ fun H3 e3 => ⟨l1, l2, hs H3 ((e.trans e2).trans e3) Q (fun H4 e4 => q H4 ((e2.trans e3).trans e4)) E⟩
/-- two texts alike -/
theorem et_ne {w : Str} (h1 : Ev ta σ H (.str w)) (h2 : Ev tb σ H (.str w)) : EvT (tTest (tOp rNe ta tb)) σ H false := by
  refine et_is (et_test (ev_op h1 h2 (rv_ne rfl))) ?_
  rw [decide_eq_true rfl]
  rfl
end
section
variable {X : Cx}
/-- the same with K by its name (within a comprehension) -/
theorem ix_listK (K : PySem.W.Frag) (h : X.K = K) : IxR X (rIxL K) := h ▸ ix_list
theorem ix_tupK (K : PySem.W.Frag) (h : X.K = K) : IxR X (rIxT K) := h ▸ ix_tup
theorem call_len_seqK (K : PySem.W.Frag) (h : X.K = K) : CallR X (.builtin "len") (rLenS K) := h ▸ call_len_seq
theorem op_eqDK (K : PySem.W.Frag) (h : X.K = K) (hu : X.A.units + 64 < cLine) : OpR X (compareOp .Eq) (rEqD K) := h ▸ op_eqD hu
theorem op_neDK (K : PySem.W.Frag) (h : X.K = K) (hu : X.A.units + 64 < cLine) : OpR X (compareOp .NotEq) (rNeD K) := h ▸ op_neD hu
theorem op_in_seqK (K : PySem.W.Frag) (h : X.K = K) : OpR X (compareOp .In) (rIn K false) := h ▸ op_in_seq
theorem op_notIn_seqK (K : PySem.W.Frag) (h : X.K = K) : OpR X (compareOp .NotIn) (rIn K true) := h ▸ op_notIn_seq
end
end HE
set_option maxHeartbeats 2000000
/-! HX: a caught error that stays known behind its except clause. -/
namespace HX
open PySem PySem.Spec PyProof.Rows L2
/-- at a: an error of the class cls, its dict at d -/
def errO (a : Addr) (cls : Value) (d : Option Addr) : HO := .ext fun h => ∃ oe vs, h.get? a = some oe ∧ Zc cls d oe ∧ oe.data = .fields vs
theorem errO_tup {a : Addr} {cls : Value} {d : Option Addr} {xs : List V} : errO a cls d ≠ .tup xs := fun z => HO.noConfusion z
section
variable {X : Cx} {pins : List (Addr × Obj)} {σ : L2.St} {H : Hp} {s : Shared} {a : Addr} {oe : Obj} {vs : Array Value} {cls : Value} {d : Option Addr}
/-- a pinned error is tracked from now on -/
theorem track (I : Inv X ((a, oe) :: pins) σ H s) (hz : Zc cls d oe) (hd : oe.data = .fields vs) (new : X.s_0.heap.get? a = none) (np : ∀ p ∈ X.pn ++ pins, p.1 ≠ a) : Inv X pins σ (upd H a (errO a cls d)) s := by
  obtain ⟨p1, p2, p3, p4, p5⟩ := I.pin (a, oe) (List.mem_append_right _ List.mem_cons_self)
  have up : ∀ {b : Addr} {o : HO}, H b = some o → upd H a (errO a cls d) b = some o := fun {b o} e => by
    rw [upd_ne (ne_of_none e p2)]
    exact e
  refine { ok := I.ok, os := I.os, bare := I.bare, base := ?_, loc := I.loc, cell := I.cell, free := ?_, freeC := ?_, pin := ?_, hok := ?_, len := I.len }
  · refine ⟨I.base.keep, I.base.slot, fun b o q n hx => ?_, I.base.there, fun b xs q => up (I.base.tups b xs q), fun b o u q => up (I.base.frzs b o u q), fun b ps q => ?_⟩
    · rw [upd_ne (fun z => by rw [z, new] at q; cases q)]
      exact I.base.free b o q n hx
    · obtain ⟨more, e⟩ := I.base.tbls b ps q
      exact ⟨more, up e⟩
  · rw [upd_ne (fun z => p3 z.symm)]
    exact I.free
  · intro y c e
    have nc : c ≠ a := fun z => by
      obtain ⟨v, hv⟩ := I.cell y c e
      rw [z] at hv
      obtain ⟨o, e1, e2⟩ := hv
      rw [p1] at e1
      cases e1
      exact p5 v e2
    rw [upd_ne nc]
    exact I.freeC y c e
  · intro p hp
    have hp' : p ∈ X.pn ++ (a, oe) :: pins := by
      rcases List.mem_append.mp hp with h | h
      · exact List.mem_append_left _ h
      · exact List.mem_append_right _ (List.mem_cons_of_mem _ h)
    obtain ⟨q1, q2, q3, q4, q5⟩ := I.pin p hp'
    exact ⟨q1, by rw [upd_ne (np p hp)]; exact q2, q3, q4, q5⟩
  · intro b u e
    by_cases hb : b = a
    · subst hb
      rw [upd_same] at e
      cases e
      exact ⟨⟨oe, vs, p1, hz, hd⟩, ⟨oe, p1⟩, fun h1 h2 ⟨o2, v2, g1, g2, g3⟩ k => ⟨o2, v2, k _ g1, g2, g3⟩⟩
    · rw [upd_ne hb] at e
      exact (I.hok b u e).stay (fun _ _ _ q => q) (fun _ q => up q) (fun _ _ q => up q)
/-- a tracked error's object -/
theorem err_at (I : Inv X pins σ H s) (e : H a = some (errO a cls d)) : ∃ oe vs, s.heap.get? a = some oe ∧ Zc cls d oe ∧ oe.data = .fields vs := (I.hok a _ e).1
/-- what a clause that keeps its error wishes of an error of the body -/
def wKeep (K : PySem.W.Frag) (c : Value) (i : Nat) (ts : Addr → Value → Option Addr → TS) (D : Ends) : WX := fun cls d σ H =>
  PySem.W.exmOne K cls c = some true ∧ ∀ a, H a = none → ts a cls d { nx := fun σ' H' => H' a = none → D.nx (σ'.set i none) (upd H' a (errO a cls d)), rt := fun _ _ => False, bk := fun _ _ => False, ct := fun _ _ => False } (σ.set i (some (.ref a))) H
/-- try: .. except x as n: suite; every error of the body is an x, and stays known -/
theorem ps_try_keep {x n : Str} {c : Value} {i : Nat} {body suite : List Stmt} {b₀ : Stmt} {np pos pos' : Pos} {tb : WX → TS} {ts : Addr → Value → Option Addr → TS} (hs : X.stack = X.env :: X.outer) (hf : X.env.frame = some X.env.locals) (hex : X.ex = []) (hN : X.N.Nodup)
    (hi : X.N[i]? = some n) (hln : X.env.kindOf n = some .local) (hc : Names X x c)
    (hb : ∀ (W : WX) (pn : List (Addr × Obj)) (xe : Value → Shared → Prop), Takes (X.tr pn xe) W → PassesOwn (model X.prog X.w) X.A X.env xe → PSs (X.tr pn xe) body (tb W))
    (hsu : ∀ (a : Addr) (oe : Obj) (cls : Value) (d : Option Addr) (pn : List (Addr × Obj)), Zc cls d oe → (∃ vs, oe.data = .fields vs) → PSs (X.suite a ((a, oe) :: pn)) (b₀ :: suite) (ts a cls d)) :
    PS X (.Try body [.ExceptHandler (some (.Name x np)) (some n) (b₀ :: suite) pos'] [] [] pos) (fun D σ H => tb (wKeep X.K c i ts D) D σ H) := by
  constructor
  intro pins s σ H D I h
  have ok := I.ok
  have hfr : X.A.frames = some (X.env :: X.outer) := ok.frames.trans (congrArg some hs)
  apply wpAny_Try_except
  refine wpAny_mono ((hb (wKeep X.K c i ts D) (X.pn ++ pins) (fun e s₁ => wpAny (model X.prog X.w) X.A (noteFrame e X.env) (fun _ s₂ => wpAny (model X.prog X.w) X.A (setFlight e none) (fun _ s₃ =>
    wpAny (model X.prog X.w) X.A (handleBy e X.env [.ExceptHandler (some (.Name x np)) (some n) (b₀ :: suite) pos']) (SP X pins D) X.xe s₃) X.xe s₂) X.xe s₁) (fun u s' xx => ?_) PassesOwn.looking).run [] s σ H D (I.toTry _) h) (fun f s1 hsp => ?_) (fun _ _ z => z)
  · obtain ⟨a, B, sI, pins', σ', H', cls, d, rfl, J', nb, up, sky, na, os, ag, hb1, hyes⟩ := xx
    have J : Inv X pins σ' H' sI := J'.ofTry ok
    rw [show (X.tr (X.pn ++ pins) _).stack = X.env :: X.outer from hs] at sky
    show wpAny (model X.prog X.w) X.A (noteFrame (.ref a) X.env) _ _ _
    apply Sky.land Zc.steady hfr hf sky
    intro h3 fl3 up3
    have J3 : Inv X pins σ' H' { s' with heap := h3 } := J.landed nb fl3.1 (up.trans up3) os ag
    obtain ⟨oe3, vs3, he3, hz3, hd3⟩ := fl3.there
    have nfr : a ∉ frs (X.env :: X.outer) := fun hm => by
      obtain ⟨_, o', e', hnf⟩ := fl3.2.2.1.mem hm
      rw [he3] at e'
      cases e'
      exact hnf _ hd3
    have nB : B.get? a = none := fl3.2.1
    have nI : sI.heap.get? a = none := by
      cases q : sI.heap.get? a with
      | none => rfl
      | some o =>
        have z := nb a o q (by rw [show (X.tr (X.pn ++ pins) _).stack = X.env :: X.outer from hs]; exact nfr)
        rw [nB] at z
        cases z
    have new : X.s_0.heap.get? a = none := by
      cases q : X.s_0.heap.get? a with
      | none => rfl
      | some o =>
        obtain ⟨o', z⟩ := J.base.there a o q (by rw [hex]; exact List.not_mem_nil)
        rw [nI] at z
        cases z
    have np' : ∀ p ∈ X.pn ++ pins, p.1 ≠ a := fun p hp z => by
      have y := (J.pin p hp).1
      rw [z, nI] at y
      cases y
    have nL : a ≠ X.env.locals := fun z => nfr (List.mem_filterMap.mpr ⟨X.env, List.mem_cons_self, hf.trans (congrArg some z.symm)⟩)
    have nF : a ∉ X.fs := fun hm => by
      obtain ⟨e, he, q⟩ := List.mem_filterMap.mp hm
      exact nfr (List.mem_filterMap.mpr ⟨e, List.mem_cons_of_mem _ he, q⟩)
    have S3 := J3.suite he3 hd3 na nL nF
    refine wpAny_handleBy_cons (codeAny_handlers_test ?_) (by intro y; cases y)
    have LM := PySem.W.exm_one (M := model X.prog X.w) J3.kIn (fun A Q E s k q => wpAny_typeOf_ref (k _ _ he3) (hz3.1.symm ▸ q) : PySem.W.Looks (model X.prog X.w) h3 (typeOf (.ref a)) cls) hb1
    have tst : ∀ {Q E : Value → Shared → Prop}, Q c { s' with heap := h3 } → wpAny (model X.prog X.w) (X.A.mark (some (.ref a))) (eval (.Name x np) X.env) Q E { s' with heap := h3 } := fun {Q E} q => by
      rcases hc with ⟨g1, g2, g3 | ⟨g3, g4, g5⟩⟩
      · exact ld_glob (X := X.suite a ((a, oe3) :: (X.pn ++ pins))) S3 g1 g3 q g2
      · exact ld_blt (X := X.suite a ((a, oe3) :: (X.pn ++ pins))) S3 g1 g3 g4 q g5 g2
    refine tst (LM.here ?_)
    refine codeAny_handlers_suite_as ?_
    refine HandSPX.lands_againZ fl3 (fun h4 fl4 up4 => ?_)
    have J4 : Inv X pins σ' H' { s' with heap := h4 } := J.landed nb fl4.1 ((up.trans up3).trans up4) os ag
    obtain ⟨oe4, vs4, he4, hz4, hd4⟩ := fl4.there
    refine store_ok (X := X.suite a ((a, oe4) :: (X.pn ++ pins))) (v := .ref a) (J4.suite he4 hd4 na nL nF) hN hi (.inl hln) rfl (fun s5 S5 => ?_) (.inr hln)
    refine wpAny_mono ((hsu a oe4 cls d (X.pn ++ pins) hz4 ⟨_, hd4⟩).run [] s5 _ H' _ S5 (hyes a na)) (fun f s6 hsp => ?_) (fun _ _ z => z.elim)
    cases f with
    | next =>
      obtain ⟨σ6, H6, S6, q6⟩ := hsp
      have n6 : H6 a = none := (S6.pin (a, oe4) (List.mem_append_left _ List.mem_cons_self)).2.1
      have J6 : Inv X ((a, oe4) :: pins) σ6 H6 s6 := ⟨ok, S6.os, S6.bare, S6.base, S6.loc, S6.cell, S6.free, S6.freeC, fun p hp => S6.pin p (by
        rcases List.mem_append.mp hp with m | m
        · exact List.mem_append_left _ (List.mem_cons_of_mem _ (List.mem_append_left _ m))
        · rcases List.mem_cons.mp m with rfl | m
          · exact List.mem_append_left _ List.mem_cons_self
          · exact List.mem_append_left _ (List.mem_cons_of_mem _ (List.mem_append_right _ m))), S6.hok, S6.len⟩
      exact gone_ok J6 hN hi hln (fun s7 J7 => ⟨_, _, track J7 hz4 hd4 new np', q6 n6⟩)
    | brk => exact let ⟨_, _, _, q⟩ := hsp; q.elim
    | cont => exact let ⟨_, _, _, q⟩ := hsp; q.elim
    | ret u => exact let ⟨_, _, _, _, _, q⟩ := hsp; q.elim
  · cases f with
    | next => exact let ⟨σ2, H2, J, q⟩ := hsp; wpAny_execs_nil ⟨σ2, H2, J.ofTry ok, q⟩
    | brk => exact let ⟨σ2, H2, J, q⟩ := hsp; ⟨σ2, H2, J.ofTry ok, q⟩
    | cont => exact let ⟨σ2, H2, J, q⟩ := hsp; ⟨σ2, H2, J.ofTry ok, q⟩
    | ret u => exact let ⟨v, σ2, H2, J, r, q⟩ := hsp; ⟨v, σ2, H2, J.ofTry ok, r, q⟩
/-- what a class of errors must say -/
structure ErrC (K : PySem.W.Frag) (D : Addr) : Prop where
  cl : (PySem.W.clsIn K D).isSome = true
  ga : PySem.W.findIn K (.ref D) "__getattribute__" = some (some (.builtin "BaseException.__getattribute__"))
  gg : PySem.W.findIn K (.ref D) "__getattr__" = some none
  ex : PySem.W.subIn K (.ref D) (.type "BaseException") = some true
  hd : PySem.W.hasDictIn K D = true
  hc : PySem.W.findIn K (.ref D) "__class__" = some (some (.builtin "object.__class__"))
  gs : PySem.W.specialIn K (.builtin "object.__class__") "__get__" = some (some (.builtin "getset_descriptor.__get__"))
  tk : PySem.W.takesIn K (.builtin "object.__class__") = some true
  ob : PySem.W.mroIn K D (.type "object") = some true
/-- the error at a as an instance of its class -/
theorem err_inst {D dd : Addr} {fs : List (Str × V)} (I : Inv X pins σ H s) (e : H a = some (errO a (.ref D) (some dd))) (ed : H dd = some (.xd fs)) :
    ∃ (ox od : Obj) (mA : Str → Option Value), PySem.W.InstAt s.heap a ox D (some od) ∧ (∀ f, RelO (fs.lookup f) (mA f)) ∧ ∀ y, PySem.W.lookIn y od = some (mA y) := by
  obtain ⟨ox, vs, h1, h2, h3⟩ := err_at I e
  obtain ⟨mA, hns, hr⟩ := (show ObjOk X.prog X.w H s.heap dd (.xd fs) from I.hok dd _ ed)
  obtain ⟨od, ho, hl⟩ := lookIn_ns hns
  exact ⟨ox, od, mA, ⟨h1, h2.1, by unfold PySem.W.notCls; rw [h3] <;> rfl, by rw [h2.2]; exact ho⟩, hr, hl⟩
/-- isinstance(caught, c) -/
def rIsX (K : PySem.W.Frag) : List V → Hp → VK → Prop := fun xs H Q => ∃ (a D dd : Addr) (fs : List (Str × V)) (c : V) (cv : Value) (b : Bool), xs = [.ref a, c] ∧ H a = some (errO a (.ref D) (some dd)) ∧ H dd = some (.xd fs) ∧ ErrC K D ∧ ClsV c cv ∧ PySem.W.kitOne K (.ref D) cv = some b ∧ Q (.bl b) H
def rIsU (K : PySem.W.Frag) : List V → Hp → VK → Prop := fun xs H Q => rIsi K xs H Q ∨ rIsX K xs H Q
theorem call_isU : CallR X (.builtin "isinstance") (rIsU X.K) := by
  intro pins s σ H xs us Q I r h
  rcases h with h | h
  · exact call_isi pins s σ H xs us Q I r h
  · obtain ⟨a, D, dd, fs, c, cv, b, rfl, e, ed, C, hc, hk, q⟩ := h
    obtain ⟨u1, u2, rfl, r1, r2⟩ := vals2 r
    cases (show u1 = Value.ref a from r1)
    cases hc.eq r2
    obtain ⟨ox, od, mA, J, _, _⟩ := err_inst I e ed
    exact PySem.W.kia_one (PySem.W.kitx_exc C.cl C.ga C.gg C.ex C.hc C.gs C.tk C.ob) I.kIn J hk (fun z => nomatch z) (fun tk => ⟨.bl b, H, I.tok tk, rfl, q⟩)
/-- caught.n -/
def tErr (K : PySem.W.Frag) (n : Str) (te : TE) : TE := fun σ H Q => te σ H fun x H1 => ∃ (a D dd : Addr) (fs : List (Str × V)) (v : V), x = .ref a ∧ H1 a = some (errO a (.ref D) (some dd)) ∧ H1 dd = some (.xd fs) ∧ ErrC K D ∧ PySem.W.findIn K (.ref D) n = some none ∧ fs.lookup n = some v ∧ Q v H1
theorem pe_err {e : Expr} {te : TE} {n : Str} {pos : Pos} (he : PE X e te) (hb : attributeBase e n X.env (eval e X.env) = eval e X.env := by rfl) : PE X (.Attribute e n pos) (tErr X.K n te) := by
  constructor
  intro pins s σ H Q I h
  refine attr_of hb (thn (he.run pins s σ H _ I h) (fun u s1 z => ?_))
  obtain ⟨x, H1, I1, rx, a, D, dd, fs, v, rfl, e1, e2, C, hn, l, q⟩ := z
  cases (show u = Value.ref a from rx)
  obtain ⟨ox, od, mA, J, hr, hl⟩ := err_inst I1 e1 e2
  obtain ⟨u2, hu, ru⟩ := RelO.some_of (v := v) (o := mA n) (by rw [← l]; exact hr n)
  exact HandSPX.exc_get I1.kIn J C.ga C.gg C.ex (PySem.W.findObj_own C.hd hn rfl (by rw [hl, hu])) (handed_of ru) ⟨v, H1, I1.tok _, ru, q⟩
end
/-- what an error's __init__ with the one field part promises -/
def spPart (C : Addr) : Sp := fun vs H Q _ => ∃ a v, vs = [.ref a, v] ∧ H a = some (exo a C none) ∧ ∀ dx, H dx = none → dx ≠ a → Q .non (upd (upd H dx (exd dx [("part", v)])) a (exo a C (some dx)))
/-- a class of errors with the one field part, as the top left it -/
structure Er (P : Program) (w : World) (K : PySem.W.Frag) (mg : Str → Option Value) (base : Heap) (x : Str) where
  C : Addr
  fI : Addr
  fd : FuncData
  oex : OexC K C
  ini : PySem.W.findIn K (.ref C) "__init__" = some (some (.ref fI))
  tyI : PySem.W.typeIn K (.ref fI) = some (.type "function")
  ok : FnOk P w K mg base CX0 1 fI fd ["self", "part"] (spPart C)
  b : Binds K fd ["self", "part"] []
  m : mg x = some (.ref C)
  no : PySem.W.findIn K (.ref C) "part" = some none
  err : ErrC K C
/-- an error of the class C with this part reaches E -/
def Told (E : Value → Option Addr → Hp → Prop) (C : Addr) (H : Hp) (v : V) : Prop := ∀ d H', (∀ p o, H p = some o → H' p = some o) → H d = none → H' d = some (.xd [("part", v)]) → E (.ref C) (some d) H'
theorem raise_go {E : XK} {C : Addr} {H : Hp} {v : V} (h : Told E C H v) : [v].length ≤ 1000 ∧ ∀ a, H a = none → spPart C (.ref a :: ([v] ++ [])) (upd H a (exo a C none))
    (fun u H2 => u = .non ∧ ∃ (d : Addr) (fs : List (Str × V)), H2 a = some (exo a C (some d)) ∧ H2 d = some (exd d fs) ∧ H d = none ∧ E (.ref C) (some d) (upd (del H2 a) d (.xd fs))) (fun _ _ _ => False) := by
  refine ⟨by show 1 ≤ 1000; decide, fun a na => ⟨a, v, rfl, upd_same, fun dx nd ne => ⟨rfl, dx, [("part", v)], upd_same, ?_, ?_, ?_⟩⟩⟩
  · rw [upd_ne ne, upd_same]
  · rw [upd_ne ne] at nd
    exact nd
  · have nd' : H dx = none := by rw [upd_ne ne] at nd; exact nd
    refine h dx _ (fun p o e => ?_) nd' upd_same
    have h1 : p ≠ dx := ne_of_none e nd'
    have h2 : p ≠ a := ne_of_none e na
    rw [upd_ne h1, del_ne h2, upd_ne h2, upd_ne h1, upd_ne h2]
    exact e
section
variable {X : Cx} {x : Str} {p pos pos' : Pos} {e : Expr} {te : TE} {k : Nat} {W : WX}
theorem ps_raise_er (T : Er X.prog X.w X.K X.mg X.base x) (hr : Room k X.A) (tk : Takes X W) (he : PE X e te) (hk : 2 ≤ k := by decide) (hc : X.calm = true := by rfl) (hg : Gl X x := by rfl) (n1 : (x == ("__debug__" : Str)) = false := by decide)
    (n2 : starEach [e] X.env = (false, eval e X.env) :: starEach [] X.env := by rfl) : PS X (.Raise (some (.Call (.Name x p) [e] [] pos)) none pos') (fun _ σ H => tMkO T.C (spPart T.C) [] (tCons te tNil) σ H fun cls d H' => W cls d σ H') :=
  ps_raise (pos := pos') hc tk (pmk_oex (pos := pos) (p := p) T.oex T.ini T.tyI T.ok (hr.mono hk) T.b .nil HG.p0 hg T.m (pa_cons he pa_nil n2) n1 n2 (by rfl))
end
end HX
/-! HY: an own class of errors with the one field part, from its row of facts. -/
namespace HX
open PySem PySem.Spec PyProof.Rows L2
theorem exm_of {K : PySem.W.Frag} {C S : Addr} (h1 : PySem.W.subIn K (.ref S) (.type "BaseException") = some true) (h2 : PySem.W.isClsIn K S = true) (h3 : PySem.W.typeIn K (.ref S) = some (.type "type")) (h4 : PySem.W.subIn K (.ref C) (.ref S) = some true) :
    PySem.W.exmOne K (.ref C) (.ref S) = some true := by
  have e1 : (PySem.W.subIn K (.ref S) (.type "BaseException") == some true) = true := by rw [h1] <;> rfl
  have e2 : ((PySem.W.clsIn K S).isSome && PySem.W.typeIn K (.ref S) == some (.type "type")) = true := by
    have h2' : (PySem.W.clsIn K S).isSome = true := h2
    rw [h2', h3] <;> rfl
  show (if (PySem.W.subIn K (.ref S) (.type "BaseException") == some true) = true then (if ((PySem.W.clsIn K S).isSome && PySem.W.typeIn K (.ref S) == some (.type "type")) = true then PySem.W.subIn K (.ref C) (.ref S) else none) else none) = some true
  rw [if_pos e1, if_pos e2]
  exact h4
theorem kit_self {K : PySem.W.Frag} {C : Addr} : PySem.W.kitOne K (.ref C) (.ref C) = some true := if_pos (beq_self_eq_true _)
/-- what k_is tells of the class -/
structure Row (K : PySem.W.Frag) (C fI : Addr) : Prop where
  cls : ∃ nm q N bs bm sn sub ab col dd k0 k1 k2 k3 k5, K.lookup C = some (excClassObj nm q C N bs bm true sn sub ab col dd k0 k1 k2 k3 k5 "ValueError.__new__") ∧ PySem.HandSPX.refsVE bm = true
  sa : PySem.W.findIn K (.ref C) "__setattr__" = some (some (.builtin "object.__setattr__"))
  ga : PySem.W.findIn K (.ref C) "__getattribute__" = some (some (.builtin "BaseException.__getattribute__"))
  gg : PySem.W.findIn K (.ref C) "__getattr__" = some none
  hc : PySem.W.findIn K (.ref C) "__class__" = some (some (.builtin "object.__class__"))
  no : PySem.W.findIn K (.ref C) "part" = some none
  ini : PySem.W.findIn K (.ref C) "__init__" = some (some (.ref fI))
  tyI : PySem.W.typeIn K (.ref fI) = some (.type "function")
  exC : PySem.W.subIn K (.ref C) (.type "BaseException") = some true
  tyC : PySem.W.typeIn K (.ref C) = some (.type "type")
  kC : PySem.W.keepIn K (.ref C) = true
  hd : PySem.W.hasDictIn K C = true
  cl : PySem.W.isClsIn K C = true
  ob : PySem.W.subIn K (.ref C) (.type "object") = some true
  gs : PySem.W.specialIn K (.builtin "object.__class__") "__get__" = some (some (.builtin "getset_descriptor.__get__"))
  tk : PySem.W.takesIn K (.builtin "object.__class__") = some true
theorem Row.err {K : PySem.W.Frag} {C fI : Addr} (R : Row K C fI) : ErrC K C := ⟨R.cl, R.ga, R.gg, R.exC, R.hd, R.hc, R.gs, R.tk, R.ob⟩
theorem Row.oex {K : PySem.W.Frag} {C fI : Addr} (R : Row K C fI) : OexC K C := ⟨R.cls, R.sa, R.exC, R.tyC, R.kC⟩
def Row.er {P : Program} {w : World} {K : PySem.W.Frag} {mg : Str → Option Value} {base : Heap} {x : Str} {C fI : Addr} {fd : FuncData} (R : Row K C fI) (m : mg x = some (.ref C)) (b : Binds K fd ["self", "part"] []) (ok : FnOk P w K mg base CX0 1 fI fd ["self", "part"] (spPart C)) : Er P w K mg base x :=
  ⟨C, fI, fd, R.oex, R.ini, R.tyI, ok, b, m, R.no, R.err⟩
end HX
/-! HS: sorted(xs, key=abs), xs a list or a tuple of ints. -/
namespace HS
open PySem PySem.Spec PyProof.Rows PySem.Calls L2
section
variable {prog : Program} {w : World} {A : Around} {E : Value → Shared → Prop} {s : Shared}
/-- a list or a tuple of these values -/
def Seq (h : Heap) (l : Addr) (vs : List Value) : Prop := ∃ o n, h.get? l = some o ∧ (o.cls = .type "list" ∨ o.cls = .type "tuple") ∧ o.data = .seq vs.toArray n
theorem collect_seq {l : Addr} {vs : List Value} {Q : List Value → Shared → Prop} (hl : Seq s.heap l vs) (hsz : vs.length ≤ sizeLine)
    (h : Q vs { s with heap := (s.heap.push (seqObj "list" #[] 0)).update s.heap.objs.size (Obj.mapSeq (· ++ vs.toArray)) }) : wpAny (model prog w) A (collect (.ref l)) Q E s := by
  obtain ⟨o, n, ho, hc, hd⟩ := hl
  unfold collect
  refine wpAny_bind (wpAny_runValue (codeAny_builtin entry_proto_collect' ?_))
  show wpAny _ _ (do again (.builtin "list.__iadd__" ⟨[← newList [], .ref l], []⟩)) _ _ s
  refine wpAny_bind (wpAny_newList (wpAny_pure ⟨Code.quiet_builtin _ (by decide +kernel), codeAny_builtin entry_list_iadd' ?_⟩))
  show wpAny _ _ (Builtin.List.listExtendWith (.ref s.heap.objs.size) (.ref l) (.ref s.heap.objs.size)) _ _ { s with heap := s.heap.push (seqObj "list" #[] 0) }
  unfold Builtin.List.listExtendWith
  have ho2 : (s.heap.push (seqObj "list" #[] 0)).get? l = some o := Heap.get?_push_of_some _ ho
  rcases hc with hc | hc
  · refine wpAny_bind (wpAny_typeOf (T := "list") ⟨o, ho2, hc⟩ ?_)
    have ht : (Value.type "list" == Value.type "list") = true := by rfl
    rw [if_pos (by rw [ht]; simp)]
    refine wpAny_bind (listItems_at ho2 hd ?_)
    refine wpAny_bind (listItems_at (xs := #[]) (n := 0) (Heap.get?_push_size _ rfl) rfl ?_)
    rw [if_neg (by simp)]
    refine wpAny_bind (listUpdate_at (xs := #[]) (n := 0) (Heap.get?_push_size _ rfl) rfl ?_ (Nat.zero_le _) (by show (#[] ++ vs.toArray).size ≤ sizeLine + 1; simp only [Array.size_append, List.size_toArray, List.length_nil]; omega))
    refine wpAny_pure ?_
    refine wpAny_bind (wpAny_load (get?_update_seq (Heap.get?_push_size _ rfl) _) ?_)
    show wpAny _ _ (pure ((#[] : Array Value) ++ vs.toArray).toList) Q E _
    rw [show ((#[] : Array Value) ++ vs.toArray).toList = vs by simp]
    exact wpAny_pure h
  · refine wpAny_bind (wpAny_typeOf (T := "tuple") ⟨o, ho2, hc⟩ ?_)
    have ht : (Value.type "tuple" == Value.type "tuple") = true := by rfl
    rw [if_pos (by rw [ht]; simp)]
    refine wpAny_bind (listItems_at ho2 hd ?_)
    refine wpAny_bind (listItems_at (xs := #[]) (n := 0) (Heap.get?_push_size _ rfl) rfl ?_)
    rw [if_neg (by simp)]
    refine wpAny_bind (listUpdate_at (xs := #[]) (n := 0) (Heap.get?_push_size _ rfl) rfl ?_ (Nat.zero_le _) (by show (#[] ++ vs.toArray).size ≤ sizeLine + 1; simp only [Array.size_append, List.size_toArray, List.length_nil]; omega))
    refine wpAny_pure ?_
    refine wpAny_bind (wpAny_load (get?_update_seq (Heap.get?_push_size _ rfl) _) ?_)
    show wpAny _ _ (pure ((#[] : Array Value) ++ vs.toArray).toList) Q E _
    rw [show ((#[] : Array Value) ++ vs.toArray).toList = vs by simp]
    exact wpAny_pure h
theorem sorted_seq {l : Addr} {vs : List Value} {kw : List (Str × Value)} {Q : Value → Shared → Prop} (hl : Seq s.heap l vs) (hL : vs.length ≤ sizeLine) (ha1 : argsOk "sorted" ⟨[.ref l], kw⟩) (ha2 : ∀ x, argsOk "list.sort" ⟨[.ref x], kw⟩)
    (body : ∀ E2 : Value → Shared → Prop, wpAny (model prog w) A.in1.in1 (Builtin.«list.sort» ⟨[.ref (s.heap.objs.size + 1)], kw⟩) (fun f s' => f = .done (.ret .none) ∧ Q (.ref (s.heap.objs.size + 1)) s') E2 { s with heap := PySem.W.copyHeap s.heap vs }) :
    wpAny (model prog w) A (call (.builtin "sorted") [.ref l] kw) Q E s := by
  refine call_function_entry_kw kind_sorted plain_sorted entry_sorted ha1 ?_
  unfold Builtin.«sorted»
  refine wpAny_bind (m := checkCount "sorted" 1 1 _) (wpAny_pure (wpAny_bind (collect_seq hl hL (wpAny_bind (wpAny_newList ?_ hL)))))
  have e : ((s.heap.push (seqObj "list" #[] 0)).update s.heap.objs.size (Obj.mapSeq (· ++ vs.toArray))).objs.size = s.heap.objs.size + 1 := (Heap.size_update ..).trans (size_push' ..)
  show wpAny _ _ _ _ _ { s with heap := PySem.W.copyHeap s.heap vs }
  rw [e]
  refine wpAny_bind (wpAny_holding (wpAny_call_entry_kw slot_list_sort ⟨_, PySem.W.copyHeap_at s.heap vs, rfl⟩ entry_list_sort (wpAny_mono (body _) (fun f s' hf => ?_) (fun _ _ z => z)) (ha2 _)))
  obtain ⟨rfl, q⟩ := hf
  exact ⟨_, rfl, wpAny_pure ⟨_, rfl, q⟩⟩
def absI (i : Int) : Int := if i < 0 then -i else i
/-- by amounts -/
def sortAbs (ns : List Int) : List Int := ns.mergeSort (fun a b => decide (absI a ≤ absI b))
theorem each_ints : ∀ {vs : List Value} {ns : List Int}, IntsAre vs ns → PySem.W.EachIs (fun v (x : Int) => ∃ t, v = Value.int x t) vs ns
  | _, _, .nil => .nil
  | _, _, .cons n t h => .cons ⟨t, rfl⟩ (each_ints h)
theorem ints_each : ∀ {vs : List Value} {ns : List Int}, PySem.W.EachIs (fun v (x : Int) => ∃ t, v = Value.int x t) vs ns → IntsAre vs ns
  | _, _, .nil => .nil
  | _, _, .cons ⟨t, e⟩ h => by
    subst e
    exact .cons _ t (ints_each h)
theorem sorted_abs {l : Addr} {vs : List Value} {ns : List Int} {Q : Value → Shared → Prop} (hl : Seq s.heap l vs) (hi : IntsAre vs ns) (hL : ns.length ≤ sizeLine) (hu : A.units + 64 < cLine)
    (h : ∀ out c h' tk, (∀ b o, s.heap.get? b = some o → h'.get? b = some o) → h'.get? (s.heap.objs.size + 1) = some (seqObj "list" (List.toArray out) c) → IntsAre out (sortAbs ns) → Q (.ref (s.heap.objs.size + 1)) { s with heap := h', toks := tk }) :
    wpAny (model prog w) A (call (.builtin "sorted") [.ref l] [(Str.ofString "key", .builtin "abs")]) Q E s := by
  have ev := each_ints hi
  have lv : vs.length = ns.length := hi.length
  have up : ∀ {g : Heap}, PySem.W.KeepsBut (s.heap.objs.size + 1) (PySem.W.copyHeap s.heap vs) g → ∀ b o, s.heap.get? b = some o → g.get? b = some o := fun kp b o q => kp b o (Nat.ne_of_lt (Nat.lt_succ_of_lt (Heap.lt_size q))) (PySem.W.copyHeap_old q)
  refine sorted_seq hl (by rw [lv]; exact hL) (PyProof.Rows.ksk_s1 _ _) (fun _ => PyProof.Rows.ksk_l1 _ _) (fun E2 => ?_)
  rw [PyProof.Rows.ksk_t4]
  refine PySem.W.keyH_tree (kz := ns.map fun i => PyData.int (absI i)) (s := { s with heap := PySem.W.copyHeap s.heap vs }) (PySem.W.copyHeap_at s.heap vs) (by rw [List.length_map]; exact lv.symm) (by rw [lv]; exact hL)
    (PySem.W.AllAlike.of fun _ _ => rfl) (PySem.W.Sortable.others fun _ => ⟨fun z => PyData.noConfusion z, fun _ z => PyData.noConfusion z⟩) (PySem.W.bound_map (A := A.in1.in1) fun x _ => (by show A.units + 1 + 1 + 0 < cLine; omega))
    (PySem.W.keyH_turns (s := { s with heap := PySem.W.copyHeap s.heap vs }) ev fun v x hR hx g tk kp => ?_) fun h' tk out c kp hD ko => ⟨rfl, ?_⟩
  · obtain ⟨t, rfl⟩ := hR
    exact call_abs_int fun u tk2 => ⟨g, tk2, rfl, fun _ _ z => z, Reads.int _ u⟩
  · have e2 := PySem.W.keyedOut_each (fun i => PyData.int (absI i)) ko ev
    rw [PySem.W.dataLe_int] at e2
    exact h out c h' tk (up kp) hD (ints_each e2)
end
section
variable {X : Cx} {e : Expr} {te : TE} {p p2 kp pos : Pos}
def tSortAbs (K : PySem.W.Frag) (te : TE) : TE := fun σ H Q => te σ H fun x H1 => ∃ (a : Addr) (ns : List Int), x = .ref a ∧ (SqL K H1 a (ns.map V.int) ∨ SqT K H1 a (ns.map V.int)) ∧ ∀ r, H1 r = none → Q (.ref r) (upd H1 r (.lst ((sortAbs ns).map V.int)))
theorem sortAbs_perm (ns : List Int) : (sortAbs ns).Perm ns := List.mergeSort_perm ns _
/-- sorted(e, key=abs) -/
theorem pe_sortAbs (hu : X.A.units + 64 < cLine) (hm : X.mg "sorted" = none) (hma : X.mg "abs" = none) (he : PE X e te) (hg : Gl X "sorted" := by rfl) (hga : Gl X "abs" := by rfl)
    (n1 : backTo pos (starEach [e] X.env) = (false, eval e X.env) :: backTo pos (starEach [] X.env) := by rfl) (n2 : (backTo pos (starEach [e] X.env)).any (·.1) = false := by rfl) (n3 : starEach [e] X.env = (false, eval e X.env) :: starEach [] X.env := by rfl) :
    PE X (.Call (.Name "sorted" p) [e] [⟨some "key", .Name "abs" p2, kp⟩] pos) (tSortAbs X.K te) := by
  constructor
  intro pins s σ H Q I h
  refine wpAny_Call_Name_kw (ld_blt (u := .builtin "sorted") I hg hm (by decide +kernel) ?_ (by decide) (by decide))
  refine PyProof.Rows.callWith_kw (thn ((pa_cons he pa_nil n3).run pos pins s σ H (fun xs H1 => match xs with | [x] => ∃ (a : Addr) (ns : List Int), x = .ref a ∧ (SqL X.K H1 a (ns.map V.int) ∨ SqT X.K H1 a (ns.map V.int)) ∧ ∀ r, H1 r = none → Q (.ref r) (upd H1 r (.lst ((sortAbs ns).map V.int))) | _ => False) I ?_) (fun us s1 z => ?_)) n1 n2 (by rfl) (by rfl)
  · exact h
  · obtain ⟨xs, H1, J, r1, z⟩ := z
    obtain ⟨x, rfl⟩ : ∃ x, xs = [x] := match xs, z with | [x], _ => ⟨x, rfl⟩
    obtain ⟨a, ns, rfl, hS, q⟩ := z
    obtain ⟨u, rfl, r2⟩ := vals1 r1
    cases (show u = Value.ref a from r2)
    show wpAny _ _ (evalAll ((do let v ← eval (.Name "abs" p2) X.env; standAt pos; pure v) :: [])) _ _ s1
    refine wpAny_evalAll_cons (wpAny_bind (ld_blt (u := .builtin "abs") J hga hma (by decide +kernel) (wpAny_bind (wpAny_standAt (wpAny_pure (wpAny_evalAll_nil ?_)))) (by decide) (by decide)))
    show wpAny _ _ (call (.builtin "sorted") [.ref a] [(Str.ofString "key", .builtin "abs")]) _ _ s1
    have fin : ∀ (its : List Value), Vals (ns.map V.int) its → ns.length ≤ sizeLine → Seq s1.heap a its → wpAny (model X.prog X.w) X.A (call (.builtin "sorted") [.ref a] [(Str.ofString "key", .builtin "abs")]) (EP X pins σ Q) X.xe s1 := fun its rv hz sq => by
      refine sorted_abs sq rv.ints hz hu (fun out c h' tk kp hD hi => ?_)
      have hf : H1 (s1.heap.objs.size + 1) = none := J.hok.fresh (Nat.le_succ _)
      refine ⟨.ref _, upd H1 (s1.heap.objs.size + 1) (.lst ((sortAbs ns).map V.int)), J.laid (t' := tk) kp (Nat.le_succ _) ⟨?_, out, c, vals_ints hi, hD⟩, rfl, q _ hf⟩
      rw [List.length_map, (sortAbs_perm ns).length_eq]
      exact hz
    rcases hS with hS | hS
    · obtain ⟨its, rv, pl, hz⟩ := J.list hS
      obtain ⟨o, ho, hc, n, hd⟩ := pl.isList
      exact fin its rv (by rw [List.length_map] at hz; exact hz) ⟨o, n, ho, .inl hc, hd⟩
    · obtain ⟨its, rv, pl, hz⟩ := J.tuple hS
      obtain ⟨o, ho, hc, n, hd⟩ := pl
      exact fin its rv (by rw [List.length_map] at hz; exact hz) ⟨o, n, ho, .inr hc, hd⟩
end
end HS
namespace K14
open PySem PySem.Spec PyProof.Rows L2
def topS (i : Nat) : Stmt := PySem.Challenge.pw_roomstair_k14_labels_by_turns.main.body.getD i (.Pass ⟨0, 0, 0, 0⟩)
abbrev s_is_integer : Stmt := topS 1
theorem sc_is_integer : FnScope ["value"] ["value"] (defScope s_is_integer) := ⟨rfl, rfl, rfl, by decide +kernel, rfl, by decide +kernel, by decide +kernel⟩
abbrev s_is_list : Stmt := topS 2
theorem sc_is_list : FnScope ["value"] ["value"] (defScope s_is_list) := ⟨rfl, rfl, rfl, by decide +kernel, rfl, by decide +kernel, by decide +kernel⟩
abbrev s_are_labels : Stmt := topS 7
theorem sc_are_labels : FnScope ["value", "label"] ["value"] (defScope s_are_labels) := ⟨rfl, rfl, rfl, by decide +kernel, rfl, by decide +kernel, by decide +kernel⟩
abbrev s_is_turn : Stmt := topS 8
theorem sc_is_turn : FnScope ["lesser", "label"] ["lesser", "label"] (defScope s_is_turn) := ⟨rfl, rfl, rfl, by decide +kernel, rfl, by decide +kernel, by decide +kernel⟩
abbrev s_turns_among : Stmt := topS 9
theorem sc_turns_among : FnScope ["told", "ordered", "at"] ["told"] (defScope s_turns_among) := ⟨rfl, rfl, rfl, by decide +kernel, rfl, by decide +kernel, by decide +kernel⟩
abbrev s_by_turns : Stmt := topS 10
theorem sc_by_turns : FnScope ["labels"] ["labels"] (defScope s_by_turns) := ⟨rfl, rfl, rfl, by decide +kernel, rfl, by decide +kernel, by decide +kernel⟩
/-! ### values -/
def IsI (K : PySem.W.Frag) (H : Hp) (v : V) (r : Bool) : Prop := ∃ t b1 b2, TyX K H v t ∧ PySem.W.kitOne K t (.type "int") = some b1 ∧ PySem.W.kitOne K t (.type "bool") = some b2 ∧ r = (b1 && !b2)
/-- an int, None, a bool, a text, a list, a tuple, a dict -/
def PV (H : Hp) (v : V) : Prop := (∃ i, v = .int i) ∨ v = .non ∨ (∃ b, v = .bl b) ∨ (∃ x, v = .str x) ∨ ∃ p, v = .ref p ∧ HD.Box H p
def Grow (H H' : Hp) : Prop := ∀ p o, H p = some o → H' p = some o
theorem Grow.new {H : Hp} {p : Addr} {o : HO} (n : H p = none) : Grow H (upd H p o) := fun q u e => HD.stay n e
theorem Grow.trans {H H1 H2 : Hp} (a : Grow H H1) (b : Grow H1 H2) : Grow H H2 := fun p o e => b p o (a p o e)
theorem PV.grow {H H' : Hp} {v : V} (a : PV H v) (k : Grow H H') : PV H' v := by
  rcases a with a | a | a | a | ⟨p, e, ⟨x, h⟩ | ⟨x, h⟩ | ⟨x, h⟩⟩
  · exact .inl a
  · exact .inr (.inl a)
  · exact .inr (.inr (.inl a))
  · exact .inr (.inr (.inr (.inl a)))
  · exact .inr (.inr (.inr (.inr ⟨p, e, .inl ⟨x, k _ _ h⟩⟩)))
  · exact .inr (.inr (.inr (.inr ⟨p, e, .inr (.inl ⟨x, k _ _ h⟩)⟩)))
  · exact .inr (.inr (.inr (.inr ⟨p, e, .inr (.inr ⟨x, k _ _ h⟩)⟩)))
def isIntV : V → Bool
  | .int _ => true
  | _ => false
theorem isI_of {K : PySem.W.Frag} {H : Hp} {v : V} (a : PV H v) : IsI K H v (isIntV v) := by
  rcases a with ⟨i, rfl⟩ | rfl | ⟨b, rfl⟩ | ⟨x, rfl⟩ | ⟨p, rfl, ⟨x, h⟩ | ⟨x, h⟩ | ⟨x, h⟩⟩
  · exact ⟨_, true, false, .base (.int i), kit_ty (by decide +kernel), kit_ty (by decide +kernel), rfl⟩
  · exact ⟨_, false, false, .base .non, kit_ty (by decide +kernel), kit_ty (by decide +kernel), rfl⟩
  · exact ⟨_, true, true, .base (.bl b), kit_ty (by decide +kernel), kit_ty (by decide +kernel), rfl⟩
  · exact ⟨_, false, false, .base (.str x), kit_ty (by decide +kernel), kit_ty (by decide +kernel), rfl⟩
  · exact ⟨_, false, false, .base (.lst h), kit_ty (by decide +kernel), kit_ty (by decide +kernel), rfl⟩
  · exact ⟨_, false, false, .base (.tup h), kit_ty (by decide +kernel), kit_ty (by decide +kernel), rfl⟩
  · exact ⟨_, false, false, .base (.dK h), kit_ty (by decide +kernel), kit_ty (by decide +kernel), rfl⟩
/-- a list or a tuple -/
def SeqV (H : Hp) (v : V) : Prop := ∃ p xs, v = .ref p ∧ (H p = some (.lst xs) ∨ H p = some (.tup xs))
theorem seq_or {H : Hp} {v : V} (a : PV H v) : SeqV H v ∨ ¬ SeqV H v := Classical.em _
theorem kit_seq {K : PySem.W.Frag} {H : Hp} {v : V} (a : PV H v) : ∃ t b, TyX K H v t ∧ PySem.W.kitAny K t [.type "list", .type "tuple"] = some b ∧ (b = true ↔ SeqV H v) := by
  have no : ∀ {t : Value}, PySem.W.kitOne K t (.type "list") = some false → PySem.W.kitOne K t (.type "tuple") = some false → PySem.W.kitAny K t [.type "list", .type "tuple"] = some false := fun h1 h2 =>
    kitAny_cons h1 (fun _ => kitAny_cons h2 (fun _ => rfl) (fun z => nomatch z)) (fun z => nomatch z)
  rcases a with ⟨i, rfl⟩ | rfl | ⟨b, rfl⟩ | ⟨x, rfl⟩ | ⟨p, rfl, ⟨x, h⟩ | ⟨x, h⟩ | ⟨x, h⟩⟩
  · exact ⟨_, false, .base (.int i), no (kit_ty (by decide +kernel)) (kit_ty (by decide +kernel)), ⟨fun z => (nomatch z), fun ⟨_, _, e, _⟩ => (nomatch e)⟩⟩
  · exact ⟨_, false, .base .non, no (kit_ty (by decide +kernel)) (kit_ty (by decide +kernel)), ⟨fun z => (nomatch z), fun ⟨_, _, e, _⟩ => (nomatch e)⟩⟩
  · exact ⟨_, false, .base (.bl b), no (kit_ty (by decide +kernel)) (kit_ty (by decide +kernel)), ⟨fun z => (nomatch z), fun ⟨_, _, e, _⟩ => (nomatch e)⟩⟩
  · exact ⟨_, false, .base (.str x), no (kit_ty (by decide +kernel)) (kit_ty (by decide +kernel)), ⟨fun z => (nomatch z), fun ⟨_, _, e, _⟩ => (nomatch e)⟩⟩
  · exact ⟨_, true, .base (.lst h), kitAny_cons (kit_ty (r := true) (by decide +kernel)) (fun z => nomatch z) (fun _ => rfl), ⟨fun _ => ⟨p, x, rfl, .inl h⟩, fun _ => rfl⟩⟩
  · exact ⟨_, true, .base (.tup h), kitAny_cons (kit_ty (r := false) (by decide +kernel)) (fun _ => kitAny_cons (kit_ty (r := true) (by decide +kernel)) (fun z => nomatch z) (fun _ => rfl)) (fun z => nomatch z), ⟨fun _ => ⟨p, x, rfl, .inr h⟩, fun _ => rfl⟩⟩
  · refine ⟨_, false, .base (.dK h), no (kit_ty (by decide +kernel)) (kit_ty (by decide +kernel)), ⟨fun z => (nomatch z), fun ⟨q, _, e, h2⟩ => ?_⟩⟩
    cases e
    rw [h] at h2
    rcases h2 with h2 | h2 <;> cases h2
/-- y may come next behind x -/
def isTurn (x y : Int) : Bool := decide (HS.absI x < HS.absI y) && !decide (V.bl (decide (0 < x)) = V.bl (decide (0 < y)))
section
variable {P : Program} {w : World} {K : PySem.W.Frag} {mg : Str → Option Value} {base : Heap}
def spInt : Sp := fun vs H Q _ => ∃ v, vs = [v] ∧ PV H v ∧ Q (.bl (isIntV v)) H
theorem ok_is_integer (T : HG.Tp K mg "is_integer" s_is_integer ["value"]) (m_isinstance : mg "isinstance" = none) (m_int : mg "int" = none) (m_bool : mg "bool" = none) : FnOk P w K mg base CX0 1 T.f T.fd ["value"] spInt := by
  refine T.F.ok sc_is_integer (fun vs H Q E h => ?_) (fun cdv A outer s H vs Q E hr h => ?_)
  · obtain ⟨v, rfl, _⟩ := h
    rfl
  · obtain ⟨v, rfl, hv, q⟩ := h
    obtain ⟨t, b1, b2, ty, k1, k2, e⟩ := isI_of (K := K) hv
    refine ⟨_, (pss_one (ps_ret (pe_and (pe_callB call_isi (by rfl) m_isinstance (by decide +kernel) (pa_cons (pv 0) (pa_cons (HG.pe_ty (T := "int") (by rfl) m_int (by decide +kernel)) pa_nil))) (pe_one (pe_not (pe_callB call_isi (by rfl) m_isinstance (by decide +kernel) (pa_cons (pv 0) (pa_cons (HG.pe_ty (T := "bool") (by rfl) m_bool (by decide +kernel)) pa_nil)))))))), ?_⟩
    refine ⟨v, rfl, v, _, t, _, b1, rfl, ClsV.ty "int", ty, k1, b1, rfl, ?_⟩
    rw [e] at q
    cases b1 with
    | true =>
      refine iteT ?_
      exact ⟨v, rfl, v, _, t, _, b2, rfl, ClsV.ty "bool", ty, k2, b2, rfl, q⟩
    | false => exact iteF q
def spList : Sp := fun vs H Q _ => ∃ v, vs = [v] ∧ PV H v ∧ ∀ b H', (b = true ↔ SeqV H v) → Grow H H' → Q (.bl b) H'
theorem ok_is_list (T : HG.Tp K mg "is_list" s_is_list ["value"]) (m_isinstance : mg "isinstance" = none) (m_list : mg "list" = none) (m_tuple : mg "tuple" = none) : FnOk P w K mg base CX0 1 T.f T.fd ["value"] spList := by
  refine T.F.ok sc_is_list (fun vs H Q E h => ?_) (fun cdv A outer s H vs Q E hr h => ?_)
  · obtain ⟨v, rfl, _⟩ := h
    rfl
  · obtain ⟨v, rfl, hv, q⟩ := h
    refine ⟨_, (pss_one (ps_ret (pe_callB call_isiT (by rfl) m_isinstance (by decide +kernel) (pa_cons (pv 0) (pa_cons (pe_tup (pa_cons (HG.pe_ty (T := "list") (by rfl) m_list (by decide +kernel)) (pa_cons (HG.pe_ty (T := "tuple") (by rfl) m_tuple (by decide +kernel)) pa_nil))) pa_nil))))), ?_⟩
    refine ⟨v, rfl, by show 2 ≤ sizeLine; decide, fun p np => ?_⟩
    have g : Grow H (upd H p (.tup [.ty "list", .ty "tuple"])) := Grow.new np
    obtain ⟨t, b, ty, hk, hb⟩ := kit_seq (K := K) (hv.grow g)
    refine ⟨v, p, _, t, _, b, rfl, upd_same, .cons (ClsV.ty "list") (.cons (ClsV.ty "tuple") .nil), ty, hk, q b _ ?_ g⟩
    rw [hb]
    constructor
    · rintro ⟨r, xs, rfl, h⟩
      rcases hv with ⟨i, z⟩ | z | ⟨b, z⟩ | ⟨x, z⟩ | ⟨p2, z, ⟨x, h2⟩ | ⟨x, h2⟩ | ⟨x, h2⟩⟩
      · cases z
      · cases z
      · cases z
      · cases z
      · cases z
        exact ⟨r, x, rfl, .inl h2⟩
      · cases z
        exact ⟨r, x, rfl, .inr h2⟩
      · cases z
        rw [g _ _ h2] at h
        rcases h with h | h <;> cases h
    · rintro ⟨r, xs, rfl, h⟩
      exact ⟨r, xs, rfl, h.elim (fun h => .inl (g _ _ h)) (fun h => .inr (g _ _ h))⟩
/-- a label -/
def labV : V → Bool
  | .int i => decide (i ≠ 0)
  | _ => false
theorem lab_int (n : Int) : (!decide (V.int n = V.int 0)) = labV (.int n) := by
  rw [dec_int]
  show (!(n == 0)) = decide (n ≠ 0)
  by_cases h : n = 0 <;> simp [h]
def spAre : Sp := fun vs H Q _ => ∃ v, vs = [v] ∧ PV H v ∧ ((¬ SeqV H v ∧ ∀ H', Grow H H' → Q (.bl false) H') ∨
  (∃ p xs, v = .ref p ∧ (H p = some (.lst xs) ∨ H p = some (.tup xs)) ∧ xs.length ≤ 1000 ∧ (∀ x ∈ xs, PV H x) ∧ ∀ H', Grow H H' → Q (.bl (!xs.isEmpty && xs.all labV)) H'))
theorem ok_are_labels (T : HG.Tp K mg "are_labels" s_are_labels ["value"]) (o_is_list : HG.Df P w K mg base CX0 1 "is_list" ["value"] spList) (o_is_integer : HG.Df P w K mg base CX0 1 "is_integer" ["value"] spInt) (m_len : mg "len" = none) (m_all : mg "all" = none) : FnOk P w K mg base CX0 2 T.f T.fd ["value"] spAre := by
  refine T.F.ok sc_are_labels (fun vs H Q E h => ?_) (fun cdv A outer s H vs Q E hr h => ?_)
  · obtain ⟨v, rfl, _⟩ := h
    rfl
  · obtain ⟨v, rfl, hv, ⟨hns, q⟩ | ⟨p, xs, rfl, hp, hlen, hx1, q⟩⟩ := h
    · refine ⟨_, (pss_cons (ps_if (PW.pt (pw_or (pt_not (pt_val (HG.pe_c o_is_list hr (pa_cons (pv 0) pa_nil)))) (pw_or1 (pt_cmpR op_eq (pe_callB call_len_seq (by rfl) m_len PySem.boot_len (pa_cons (pv 0) pa_nil)) pe_int (nomark _)))))
      (pss_one (ps_ret pe_bl))
      pss_nil)
    (pss_one (ps_ret (pe_callB (cr_all rfl) (by rfl) m_all (by decide +kernel) (pa_cons (pe_lc (own := [("label", 1)]) (by rfl) sc_are_labels.nd (pi_list (pv 0)) (blkOk_by (N := ["value", "label"]) (sc := defScope s_are_labels) (by decide +kernel)) (fun _ _ _ _ _ => (pg_name (i := 1) sc_are_labels.nd rfl (Or.inl rfl))) (fun _ _ _ _ _ => pts_nil) (fun _ _ _ _ _ => (pe_and (HG.pe_c o_is_integer hr (pa_cons (pv 1) pa_nil)) (pe_one (pe_cmpR op_ne (pv 1) pe_int (nomark _)))))) pa_nil))))), ?_⟩
      refine ⟨_, rfl, _, rfl, hv, fun b H1 hb g1 => ⟨b, rfl, ?_⟩⟩
      have eb : b = false := by
        cases b with
        | true => exact absurd (hb.mp rfl) hns
        | false => rfl
      subst eb
      exact iteT (iteT (q H1 g1))
    · rcases hp with hp | hp
      · skip
        refine ⟨_, (pss_cons (ps_if (PW.pt (pw_or (pt_not (pt_val (HG.pe_c o_is_list hr (pa_cons (pv 0) pa_nil)))) (pw_or1 (pt_cmpR op_eq (pe_callB call_len_seq (by rfl) m_len PySem.boot_len (pa_cons (pv 0) pa_nil)) pe_int (nomark _)))))
      (pss_one (ps_ret pe_bl))
      pss_nil)
    (pss_one (ps_ret (pe_callB (cr_all rfl) (by rfl) m_all (by decide +kernel) (pa_cons (pe_lc (own := [("label", 1)]) (by rfl) sc_are_labels.nd (pi_list (pv 0)) (blkOk_by (N := ["value", "label"]) (sc := defScope s_are_labels) (by decide +kernel)) (fun _ _ _ _ _ => (pg_name (i := 1) sc_are_labels.nd rfl (Or.inl rfl))) (fun _ _ _ _ _ => pts_nil) (fun _ _ _ _ _ => (pe_and (HG.pe_c o_is_integer hr (pa_cons (pv 1) pa_nil)) (pe_one (pe_cmpR op_ne (pv 1) pe_int (nomark _)))))) pa_nil))))), ?_⟩
        refine ⟨_, rfl, _, rfl, hv, fun b H1 hb g1 => ⟨b, rfl, ?_⟩⟩
        have eb : b = true := hb.mpr ⟨p, xs, rfl, .inl hp⟩
        subst eb
        refine iteF ?_
        have hp1 := g1 _ _ hp
        refine ⟨_, rfl, p, xs, rfl, .inl (SqL.of hp1), rfl, _, rfl, ite2 (fun h0 => ?_) (fun h0 => ?_)⟩
        · have e0 : xs = [] := by
            have e1 : ((xs.length : Nat) : Int) = 0 := V.int.inj (of_decide_eq_true h0)
            exact List.eq_nil_of_length_eq_zero (by omega)
          subst e0
          exact q H1 g1
        · have ne : xs.isEmpty = false := by
            cases xs with
            | nil => exact absurd (decide_eq_true rfl) h0
            | cons x r => rfl
          refine ⟨_, rfl, p, rfl, ⟨_, SqL.of hp1⟩, fun D nD => ?_⟩
          have gD : Grow H1 (upd H1 D (.lst [])) := Grow.new nD
          refine lc_list (K := K) (a := p) (xs := xs) (fun i H2 => Grow H1 H2 ∧ H2 D = some (.lst ((xs.take i).map fun x => V.bl (labV x)))) ⟨gD, upd_same⟩ (fun i H2 _ z => SqL.of (z.1 _ _ hp1)) ?_ ?_
          · rintro i x H2 hx ⟨k2, e2⟩
            refine ⟨rfl, ?_⟩
            have hv2 : PV H2 x := (hx1 x (List.mem_of_getElem? hx)).grow (g1.trans k2)
            refine ⟨_, rfl, x, rfl, hv2, _, rfl, ?_⟩
            have fin : ∃ acc, H2 D = some (.lst acc) ∧ acc.length < sizeLine ∧ Grow H1 (upd H2 D (.lst (acc ++ [V.bl (labV x)]))) ∧ upd H2 D (.lst (acc ++ [V.bl (labV x)])) D = some (.lst ((xs.take (i + 1)).map fun x => V.bl (labV x))) := by
              refine ⟨_, e2, ?_, fun q o e => ?_, ?_⟩
              · rw [List.length_map, List.length_take]
                exact small1000 (by omega)
              · rw [upd_ne (ne_of_none e nD)]
                exact k2 q o e
              · rw [upd_same, HD.take_snoc hx, List.map_append]
                rfl
            cases x with
            | int n =>
              refine iteT ⟨_, rfl, rfl, ?_⟩
              rw [lab_int]
              exact fin
            | non => exact iteF fin
            | bl b => exact iteF fin
            | str z => exact iteF fin
            | byt b => exact iteF fin
            | flt b => exact iteF fin
            | ref r => exact iteF fin
            | ty n => exact iteF fin
          · rintro H2 ⟨k2, e2⟩
            refine ⟨D, xs.map labV, rfl, SqL.of ?_, ?_⟩
            · rw [e2, List.take_of_length_le (Nat.le_refl _), List.map_map]
              rfl
            · have e3 : (xs.map labV).all id = (!xs.isEmpty && xs.all labV) := by rw [ne, List.all_map]; rfl
              rw [e3]
              exact q H2 (g1.trans k2)
      · skip
        refine ⟨_, (pss_cons (ps_if (PW.pt (pw_or (pt_not (pt_val (HG.pe_c o_is_list hr (pa_cons (pv 0) pa_nil)))) (pw_or1 (pt_cmpR op_eq (pe_callB call_len_seq (by rfl) m_len PySem.boot_len (pa_cons (pv 0) pa_nil)) pe_int (nomark _)))))
      (pss_one (ps_ret pe_bl))
      pss_nil)
    (pss_one (ps_ret (pe_callB (cr_all rfl) (by rfl) m_all (by decide +kernel) (pa_cons (pe_lc (own := [("label", 1)]) (by rfl) sc_are_labels.nd (pi_tup (pv 0)) (blkOk_by (N := ["value", "label"]) (sc := defScope s_are_labels) (by decide +kernel)) (fun _ _ _ _ _ => (pg_name (i := 1) sc_are_labels.nd rfl (Or.inl rfl))) (fun _ _ _ _ _ => pts_nil) (fun _ _ _ _ _ => (pe_and (HG.pe_c o_is_integer hr (pa_cons (pv 1) pa_nil)) (pe_one (pe_cmpR op_ne (pv 1) pe_int (nomark _)))))) pa_nil))))), ?_⟩
        refine ⟨_, rfl, _, rfl, hv, fun b H1 hb g1 => ⟨b, rfl, ?_⟩⟩
        have eb : b = true := hb.mpr ⟨p, xs, rfl, .inr hp⟩
        subst eb
        refine iteF ?_
        have hp1 := g1 _ _ hp
        refine ⟨_, rfl, p, xs, rfl, .inr (SqT.of hp1), rfl, _, rfl, ite2 (fun h0 => ?_) (fun h0 => ?_)⟩
        · have e0 : xs = [] := by
            have e1 : ((xs.length : Nat) : Int) = 0 := V.int.inj (of_decide_eq_true h0)
            exact List.eq_nil_of_length_eq_zero (by omega)
          subst e0
          exact q H1 g1
        · have ne : xs.isEmpty = false := by
            cases xs with
            | nil => exact absurd (decide_eq_true rfl) h0
            | cons x r => rfl
          refine ⟨_, rfl, p, rfl, ⟨_, SqT.of hp1⟩, fun D nD => ?_⟩
          have gD : Grow H1 (upd H1 D (.lst [])) := Grow.new nD
          refine lc_tup (K := K) (a := p) (xs := xs) (fun i H2 => Grow H1 H2 ∧ H2 D = some (.lst ((xs.take i).map fun x => V.bl (labV x)))) ⟨gD, upd_same⟩ (fun i H2 _ z => SqT.of (z.1 _ _ hp1)) ?_ ?_
          · rintro i x H2 hx ⟨k2, e2⟩
            refine ⟨rfl, ?_⟩
            have hv2 : PV H2 x := (hx1 x (List.mem_of_getElem? hx)).grow (g1.trans k2)
            refine ⟨_, rfl, x, rfl, hv2, _, rfl, ?_⟩
            have fin : ∃ acc, H2 D = some (.lst acc) ∧ acc.length < sizeLine ∧ Grow H1 (upd H2 D (.lst (acc ++ [V.bl (labV x)]))) ∧ upd H2 D (.lst (acc ++ [V.bl (labV x)])) D = some (.lst ((xs.take (i + 1)).map fun x => V.bl (labV x))) := by
              refine ⟨_, e2, ?_, fun q o e => ?_, ?_⟩
              · rw [List.length_map, List.length_take]
                exact small1000 (by omega)
              · rw [upd_ne (ne_of_none e nD)]
                exact k2 q o e
              · rw [upd_same, HD.take_snoc hx, List.map_append]
                rfl
            cases x with
            | int n =>
              refine iteT ⟨_, rfl, rfl, ?_⟩
              rw [lab_int]
              exact fin
            | non => exact iteF fin
            | bl b => exact iteF fin
            | str z => exact iteF fin
            | byt b => exact iteF fin
            | flt b => exact iteF fin
            | ref r => exact iteF fin
            | ty n => exact iteF fin
          · rintro H2 ⟨k2, e2⟩
            refine ⟨D, xs.map labV, rfl, SqL.of ?_, ?_⟩
            · rw [e2, List.take_of_length_le (Nat.le_refl _), List.map_map]
              rfl
            · have e3 : (xs.map labV).all id = (!xs.isEmpty && xs.all labV) := by rw [ne, List.all_map]; rfl
              rw [e3]
              exact q H2 (g1.trans k2)
theorem ok_is_turn (T : HG.Tp K mg "is_turn" s_is_turn ["lesser", "label"]) (m_abs : mg "abs" = none) : FnOk P w K mg base CX0 1 T.f T.fd ["lesser", "label"] (fun vs H Q _ => ∃ x y, vs = [.int x, .int y] ∧ Q (.bl (isTurn x y)) H) := by
  refine T.F.ok sc_is_turn (fun vs H Q E h => ?_) (fun cdv A outer s H vs Q E hr h => ?_)
  · obtain ⟨x, y, rfl, _⟩ := h
    rfl
  · obtain ⟨x, y, rfl, q⟩ := h
    refine ⟨_, (pss_one (ps_ret (pe_and (pe_cmpR op_lt (pe_callB call_abs (by rfl) m_abs (by decide +kernel) (pa_cons (pv 0) pa_nil)) (pe_callB call_abs (by rfl) m_abs (by decide +kernel) (pa_cons (pv 1) pa_nil)) (nomark _)) (pe_one (pe_cmpR op_ne (pe_cmpR op_gt (pv 0) pe_int (nomark _)) (pe_cmpR op_gt (pv 1) pe_int (nomark _)) (nomark _)))))), ?_⟩
    refine ⟨_, rfl, _, rfl, _, rfl, _, rfl, _, _, rfl, rfl, _, rfl, ite2 (fun h0 => ?_) (fun h0 => ?_)⟩
    · refine ⟨_, rfl, _, _, rfl, rfl, _, rfl, _, _, rfl, rfl, rfl, ?_⟩
      have e : isTurn x y = (!decide (V.bl (decide (0 < x)) = V.bl (decide (0 < y)))) := by
        show (decide (HS.absI x < HS.absI y) && _) = _
        rw [show decide (HS.absI x < HS.absI y) = true from h0]
        rfl
      rw [e] at q
      exact q
    · have e : isTurn x y = false := by
        show (decide (HS.absI x < HS.absI y) && _) = _
        rw [show decide (HS.absI x < HS.absI y) = false from Bool.eq_false_iff.mpr h0]
        rfl
      rw [e] at q
      exact q
end
end K14
namespace K14
open PySem PySem.Spec PyProof.Rows L2
/-! ### what by_turns answers -/
def adj : List Int → List Bool
  | x :: y :: r => isTurn x y :: adj (y :: r)
  | _ => []
theorem adj_len : ∀ ns : List Int, (adj ns).length = ns.length - 1
  | [] => rfl
  | [_] => rfl
  | x :: y :: r => by
    show (adj (y :: r)).length + 1 = (y :: r).length + 1 - 1
    rw [adj_len (y :: r)]
    show (r.length + 1 - 1) + 1 = r.length + 1 + 1 - 1
    omega
theorem adj_get : ∀ (ns : List Int) (i : Nat) (x y : Int), ns[i]? = some x → ns[i + 1]? = some y → (adj ns)[i]? = some (isTurn x y)
  | [], _, _, _, h, _ => by simp at h
  | [_], 0, _, _, _, h => by simp at h
  | [_], i + 1, _, _, h, _ => by simp at h
  | a :: b :: r, 0, x, y, h, h2 => by
    cases Option.some.inj h
    cases Option.some.inj h2
    rfl
  | a :: b :: r, i + 1, x, y, h, h2 => adj_get (b :: r) i x y h h2
def signV (x : Int) : V := if decide (0 < x) = true then .str "+" else .str "-"
/-- the answer for the sorted labels -/
def ansS : List Int → V
  | [] => .non
  | x :: r => if (adj (x :: r)).all id = true then signV x else .non
theorem told_grow {E : XK} {C : Addr} {H H1 : Hp} {v : V} (h : HX.Told E C H v) (g : Grow H H1) : HX.Told E C H1 v := fun d H' k n e => h d H' (fun p o z => k p o (g p o z)) (by
  cases q : H d with
  | none => rfl
  | some o => rw [g d o q] at n; cases n) e
def BadV (H : Hp) (v : V) : Prop := ¬ SeqV H v ∨ ∃ p xs, v = .ref p ∧ (H p = some (.lst xs) ∨ H p = some (.tup xs)) ∧ xs.length ≤ 1000 ∧ (∀ x ∈ xs, PV H x) ∧ (!xs.isEmpty && xs.all labV) = false
def spBy (C : Addr) : Sp := fun vs H Q E => ∃ v, vs = [v] ∧ PV H v ∧ ((∃ (p : Addr) (ns : List Int), v = .ref p ∧ (H p = some (.lst (ns.map V.int)) ∨ H p = some (.tup (ns.map V.int))) ∧ ns ≠ [] ∧ (∀ n ∈ ns, n ≠ 0) ∧ ns.length ≤ 1000 ∧ ∀ H', Grow H H' → Q (ansS (HS.sortAbs ns)) H') ∨
  (BadV H v ∧ HX.Told E C H (.str "labels")))
theorem lab_all {ns : List Int} (h : ∀ n ∈ ns, n ≠ 0) : (ns.map V.int).all labV = true := by
  rw [List.all_map, List.all_eq_true]
  intro n hn
  exact decide_eq_true (h n hn)
theorem sort_len (ns : List Int) : (HS.sortAbs ns).length = ns.length := (HS.sortAbs_perm ns).length_eq
section
variable {P : Program} {w : World} {K : PySem.W.Frag} {mg : Str → Option Value} {base : Heap}
def spTA : Sp := fun vs H Q _ => ∃ (p : Addr) (ns : List Int), vs = [.ref p] ∧ (H p = some (.lst (ns.map V.int)) ∨ H p = some (.tup (ns.map V.int))) ∧ ns ≠ [] ∧ ns.length ≤ 1000 ∧ ∀ H', Grow H H' → Q (ansS (HS.sortAbs ns)) H'
theorem ok_turns_among (T : HG.Tp K mg "turns_among" s_turns_among ["told"]) (o_is_turn : HG.Df P w K mg base CX0 1 "is_turn" ["lesser", "label"] (fun vs H Q _ => ∃ x y, vs = [.int x, .int y] ∧ Q (.bl (isTurn x y)) H))
    (m_len : mg "len" = none) (m_all : mg "all" = none) (m_sorted : mg "sorted" = none) (m_abs : mg "abs" = none) (m_range : mg "range" = none) :
    FnOk P w K mg base CX0 2 T.f T.fd ["told"] spTA := by
  refine T.F.ok sc_turns_among (fun vs H Q E h => ?_) (fun cdv A outer s H vs Q E hr h => ?_)
  · obtain ⟨p, ns, rfl, _⟩ := h
    rfl
  · obtain ⟨p, ns, rfl, hp, hne, hlen, q⟩ := h
    refine ⟨_, (pss_cons (ps_set (i := 1) sc_turns_among.nd rfl (.inr rfl) (HS.pe_sortAbs hr.units m_sorted m_abs (pv 0)))
    (pss_cons (ps_if (pt_not (pt_val (pe_callB (cr_all rfl) (by rfl) m_all (by decide +kernel) (pa_cons (pe_lc (own := [("at", 2)]) (by rfl) sc_turns_among.nd (pi_range2 (by rfl) m_range (pa_cons pe_int (pa_cons (pe_callB call_len_seq (by rfl) m_len PySem.boot_len (pa_cons (pv 1) pa_nil)) pa_nil))) (blkOk_by (N := ["told", "ordered", "at"]) (sc := defScope s_turns_among) (by decide +kernel)) (fun _ _ _ _ _ => (pg_name (i := 2) sc_turns_among.nd rfl (Or.inl rfl))) (fun _ _ _ _ _ => pts_nil) (fun _ _ _ _ _ => (HG.pe_c o_is_turn hr (pa_cons (pe_ix (HE.ix_listK K rfl) (pv 1) (pe_op op_sub (pv 2) pe_int) (fun _ _ => rfl)) (pa_cons (pe_ix (HE.ix_listK K rfl) (pv 1) (pv 2) (fun _ _ => rfl)) pa_nil))))) pa_nil))))
      (pss_one (ps_ret pe_non))
      pss_nil)
    (pss_one (ps_ret (pe_ifExp (pt_cmpR op_gt (pe_ix ix_list (pv 1) pe_int (fun _ _ => rfl)) pe_int (nomark _)) pe_str pe_str))))), ?_⟩
    refine ⟨_, rfl, p, ns, rfl, hp.elim (fun h => .inl (SqL.of (h))) (fun h => .inr (SqT.of (h))), fun r nr => ?_⟩
    have g2 : Grow H (upd H r (.lst ((HS.sortAbs ns).map V.int))) := Grow.new nr
    have hl2 : ((HS.sortAbs ns).map V.int).length = ns.length := by rw [List.length_map, sort_len]
    refine ⟨_, rfl, r, _, rfl, .inl (SqL.of upd_same), 1, (((HS.sortAbs ns).map V.int).length : Int), rfl, ⟨by decide, by decide, by rw [hl2]; omega, by rw [hl2]; omega⟩, fun D nD => ?_⟩
    have nrD : D ≠ r := fun e => by rw [e, upd_same] at nD; cases nD
    have g3 : Grow H (upd (upd H r (.lst ((HS.sortAbs ns).map V.int))) D (.lst [])) := g2.trans (Grow.new nD)
    have en : ((((HS.sortAbs ns).map V.int).length : Int) - 1).toNat = ns.length - 1 := by rw [hl2]; omega
    rw [en]
    refine lc_range (lo := 1) (n := ns.length - 1) (fun i H2 => Grow (upd H r (.lst ((HS.sortAbs ns).map V.int))) H2 ∧ H2 D = some (.lst (((adj (HS.sortAbs ns)).take i).map V.bl))) ⟨Grow.new nD, upd_same⟩ ?_ ?_
    · rintro i H2 hi ⟨k2, e2⟩
      have h1 : i < (HS.sortAbs ns).length := by rw [sort_len]; omega
      have h2 : i + 1 < (HS.sortAbs ns).length := by rw [sort_len]; omega
      have a1 : ((HS.sortAbs ns).map V.int)[i]? = some (.int (HS.sortAbs ns)[i]) := by rw [List.getElem?_map, List.getElem?_eq_getElem h1]; rfl
      have a2 : ((HS.sortAbs ns).map V.int)[i + 1]? = some (.int (HS.sortAbs ns)[i + 1]) := by rw [List.getElem?_map, List.getElem?_eq_getElem h2]; rfl
      have ad : (adj (HS.sortAbs ns))[i]? = some (isTurn (HS.sortAbs ns)[i] (HS.sortAbs ns)[i + 1]) := adj_get _ _ _ _ (List.getElem?_eq_getElem h1) (List.getElem?_eq_getElem h2)
      have hr2 : SqL K H2 r ((HS.sortAbs ns).map V.int) := SqL.of (k2 _ _ upd_same)
      refine ⟨rfl, ?_⟩
      refine ⟨_, rfl, _, rfl, _, _, rfl, rfl, r, _, _, _, rfl, rfl, hr2, (by rw [show (1 + (i : Int) - 1) = (i : Int) by omega]; exact atI_nat a1), _, rfl, _, rfl, r, _, _, _, rfl, rfl, hr2, (by rw [show (1 + (i : Int)) = ((i + 1 : Nat) : Int) by omega]; exact atI_nat a2), _, _, rfl, ?_⟩
      refine ⟨_, e2, ?_, fun q o e => ?_, ?_⟩
      · rw [List.length_map, List.length_take]
        exact small1000 (by omega)
      · rw [upd_ne (ne_of_none e nD)]
        exact k2 q o e
      · rw [upd_same, HD.take_snoc ad, List.map_append]
        rfl
    · rintro H2 ⟨k2, e2⟩
      have hr2 : SqL K H2 r ((HS.sortAbs ns).map V.int) := SqL.of (k2 _ _ upd_same)
      refine ⟨D, adj (HS.sortAbs ns), rfl, SqL.of ?_, _, rfl, ?_⟩
      · rw [e2, List.take_of_length_le (by rw [adj_len, sort_len]; exact Nat.le_refl _)]
      obtain ⟨x, l, es⟩ : ∃ x l, HS.sortAbs ns = x :: l := by
        cases e : HS.sortAbs ns with
        | nil =>
          have := sort_len ns
          rw [e] at this
          exact absurd (List.eq_nil_of_length_eq_zero this.symm) hne
        | cons x l => exact ⟨x, l, rfl⟩
      have qq := q H2 (g2.trans k2)
      have e5 : ansS (HS.sortAbs ns) = if (adj (HS.sortAbs ns)).all id = true then signV x else .non := by rw [es]; rfl
      rw [e5] at qq
      cases hall : (adj (HS.sortAbs ns)).all id with
      | false =>
        rw [hall] at qq
        exact iteT qq
      | true =>
        rw [hall] at qq
        refine iteF ?_
        have hx : atI ((HS.sortAbs ns).map V.int) 0 = some (.int x) := by rw [es]; exact atI_nat (j := 0) rfl
        refine ⟨_, rfl, r, _, 0, .int x, rfl, rfl, hr2, hx, _, _, rfl, rfl, _, rfl, ite2 (fun h => ?_) (fun h => ?_)⟩
        · have e6 : signV x = .str "+" := if_pos h
          rw [if_pos rfl, e6] at qq
          exact qq
        · have e6 : signV x = .str "-" := if_neg h
          rw [if_pos rfl, e6] at qq
          exact qq
theorem ok_by_turns (T : HG.Tp K mg "by_turns" s_by_turns ["labels"]) (o_are_labels : HG.Df P w K mg base CX0 2 "are_labels" ["value"] spAre) (o_turns_among : HG.Df P w K mg base CX0 2 "turns_among" ["told"] spTA)
    (e_BadLabels : HX.Er P w K mg base "BadLabels") :
    FnOk P w K mg base (L2.CX P w) 3 T.f T.fd ["labels"] (spBy e_BadLabels.C) := by
  refine T.F.okX sc_by_turns (fun vs H Q E h => ?_) (fun cdv A outer s H vs Q E hr h => ?_)
  · obtain ⟨v, rfl, _⟩ := h
    rfl
  · obtain ⟨v, rfl, hv, h⟩ := h
    have tk : Takes (cxOf (L2.CX P w) P w K mg base ["labels"] "by_turns" (defScope s_by_turns) T.f cdv A outer s H E) (fun cls d _ H => E cls d H) := takes_of rfl rfl rfl rfl
    refine ⟨_, (pss_cons (ps_if (pt_not (pt_val (HG.pe_c o_are_labels hr (pa_cons (pv 0) pa_nil))))
      (pss_one (HX.ps_raise_er e_BadLabels hr tk pe_str))
      pss_nil)
    (pss_one (ps_ret (HG.pe_c o_turns_among hr (pa_cons (pv 0) pa_nil))))), ?_⟩
    refine ⟨_, rfl, v, rfl, hv, ?_⟩
    rcases h with ⟨p, ns, rfl, hp, hne, hz, hlen, q⟩ | ⟨hb, ht⟩
    · refine .inr ⟨p, ns.map V.int, rfl, hp, by rw [List.length_map]; exact hlen, fun x hx => ?_, fun H1 g1 => ⟨_, rfl, ?_⟩⟩
      · obtain ⟨n, _, rfl⟩ := List.mem_map.mp hx
        exact .inl ⟨n, rfl⟩
      have e1 : (!(ns.map V.int).isEmpty && (ns.map V.int).all labV) = true := by
        rw [lab_all hz]
        cases ns with
        | nil => exact absurd rfl hne
        | cons x r => rfl
      rw [e1]
      refine iteF ?_
      exact ⟨_, rfl, p, ns, rfl, hp.elim (fun h => .inl (g1 _ _ h)) (fun h => .inr (g1 _ _ h)), hne, hlen, fun H2 g2 => q H2 (g1.trans g2)⟩
    · rcases hb with hns | ⟨p, xs, rfl, hp, hlen, hx, e1⟩
      · refine .inl ⟨hns, fun H1 g1 => ⟨false, rfl, ?_⟩⟩
        exact iteT (HX.raise_go (told_grow ht g1))
      · refine .inr ⟨p, xs, rfl, hp, hlen, hx, fun H1 g1 => ⟨_, rfl, ?_⟩⟩
        rw [e1]
        exact iteT (HX.raise_go (told_grow ht g1))
end
end K14
namespace K14
open PySem PySem.Spec PyProof.Rows L2
abbrev s__law_pen : Stmt := topS 12
theorem sc__law_pen : FnScope ["script", "cell"] ["script"] (defScope s__law_pen) := ⟨rfl, rfl, rfl, by decide +kernel, rfl, by decide +kernel, by decide +kernel⟩
abbrev s__law_draw : Stmt := topS 13
theorem sc__law_draw : FnScope ["pen", "many", "rest", "at", "cell", "mixed"] ["pen", "many"] (defScope s__law_draw) := ⟨rfl, rfl, rfl, by decide +kernel, rfl, by decide +kernel, by decide +kernel⟩
abbrev s__law_one_of : Stmt := topS 14
theorem sc__law_one_of : FnScope ["pen", "some"] ["pen", "some"] (defScope s__law_one_of) := ⟨rfl, rfl, rfl, by decide +kernel, rfl, by decide +kernel, by decide +kernel⟩
section
variable {P : Program} {w : World} {K : PySem.W.Frag} {mg : Str → Option Value} {base : Heap}
theorem ok__law_pen (T : HG.Tp K mg "_law_pen" s__law_pen ["script"]) (m_int : mg "int" = none) : FnOk P w K mg base CX0 1 T.f T.fd ["script"] (HD.spGauge K) := by
  refine T.F.ok sc__law_pen (fun vs H Q E h => ?_) (fun cdv A outer s H vs Q E hr h => ?_)
  · obtain ⟨s, ns, rfl, _⟩ := h
    rfl
  · obtain ⟨a, ns, rfl, hS, hlen, q⟩ := h
    refine ⟨_, (pss_one (ps_ret (pe_lst (pa_cons (pe_lc (own := [("cell", 1)]) (by rfl) sc__law_pen.nd (pi_list (pe_slice sl_list (pv 0) po_none (po_some pe_int))) (blkOk_by (N := ["script", "cell"]) (sc := defScope s__law_pen) (by decide +kernel)) (fun _ _ _ _ _ => (pg_name (i := 1) sc__law_pen.nd rfl (Or.inl rfl))) (fun _ _ _ _ _ => pts_nil) (fun _ _ _ _ _ => (pe_callTy call_int1 (by rfl) m_int (by decide +kernel) (pa_cons (pv 1) pa_nil)))) (pa_cons pe_int (pa_cons pe_int pa_nil)))))), ?_⟩
    refine ⟨.ref a, rfl, 60, rfl, a, _, rfl, hS, fun c0 nc0 => ?_⟩
    obtain ⟨ms, em, hm⟩ := HD.cutV_ints ns none (some 60)
    rw [em]
    refine ⟨c0, rfl, ⟨_, SqL.of upd_same⟩, fun D nD => ?_⟩
    have ncD : c0 ≠ D := fun e => by rw [← e, upd_same] at nD; cases nD
    have nD' : H D = none := by rw [upd_ne ncD.symm] at nD; exact nD
    refine lc_list (K := K) (a := c0) (xs := ms.map V.int) (fun i H2 => H2 c0 = some (.lst (ms.map V.int)) ∧ H2 D = some (.lst ((ms.take i).map V.int)) ∧ ∀ p o, H p = some o → H2 p = some o) ⟨?_, upd_same, fun p o e => ?_⟩ (fun i H2 _ p => SqL.of p.1) ?_ ?_
    · rw [upd_ne ncD, upd_same]
    · rw [upd_ne (ne_of_none e nD'), upd_ne (ne_of_none e nc0)]
      exact e
    · rintro i x H2 hx ⟨e1, e2, e3⟩
      obtain ⟨y, hy, rfl⟩ := HD.get_map hx
      refine ⟨rfl, ?_⟩
      refine ⟨_, rfl, .inl ⟨_, rfl, _, e2, ?_, ?_⟩⟩
      · rw [List.length_map, List.length_take]
        exact small1000 (by omega)
      have n1 : D ≠ c0 := ncD.symm
      refine ⟨by rw [upd_ne ncD]; exact e1, ?_, fun p o e => ?_⟩
      · rw [upd_same, HD.take_snoc hy, List.map_append]
        rfl
      · rw [upd_ne (ne_of_none e nD')]
        exact e3 p o e
    · rintro H2 ⟨e1, e2, e3⟩
      refine ⟨by show 3 ≤ sizeLine; decide, fun g ng => ?_⟩
      have ngH : H g = none := by
        cases e : H g with
        | none => rfl
        | some o => rw [e3 g o e] at ng; cases ng
      refine q g D ms _ ngH nD' ⟨upd_same, ?_, Int.le_refl 0, Int.le_refl 0, by omega⟩ fun p o e => ?_
      · rw [upd_ne (ne_of_none e2 ng), e2, List.length_map, List.take_of_length_le (Nat.le_refl _)]
      · rw [upd_ne (ne_of_none (e3 p o e) ng)]
        exact e3 p o e
theorem ok__law_draw (T : HG.Tp K mg "_law_draw" s__law_draw ["pen", "many"]) (m_int : mg "int" = none) (m_len : mg "len" = none) (m_abs : mg "abs" = none) : FnOk P w K mg base CX0 1 T.f T.fd ["pen", "many"] HD.spDraw := by
  refine T.F.ok sc__law_draw (fun vs H Q E h => ?_) (fun cdv A outer s H vs Q E hr h => ?_)
  · obtain ⟨g, c, ns, a, r, many, rfl, _⟩ := h
    rfl
  · obtain ⟨g, c, ns, a, r, many, rfl, G, m0, m1, a1, q⟩ := h
    have rd0 : ∀ {H2 : Hp} {a2 r2 : Int}, HD.Gau H2 g c ns a2 r2 → atI [V.ref c, .int a2, .int r2] (0 : Int) = some (.ref c) := fun _ => rfl
    refine ⟨_, (pss_cons (ps_set (i := 2) sc__law_draw.nd rfl (.inl rfl) (pe_callTy call_int1 (by rfl) m_int (by decide +kernel) (pa_cons (pe_ix ix_list (pv 0) pe_int (fun _ _ => rfl)) pa_nil)))
    (pss_cons (ps_if (pt_cmpR op_gt (pv 2) pe_int (nomark _))
      (pss_cons (ps_asg (pe_op op_fdiv (pv 2) (pv 1)) (pg_sub (pv 0) pe_int set_list))
      (pss_one (ps_ret (pe_op op_mod (pv 2) (pv 1)))))
      pss_nil)
    (pss_cons (ps_if (pt_cmpR (op_eqD hr.units) (pe_ix ix_list (pv 0) pe_int (fun _ _ => rfl)) (pe_lst pa_nil) (nomark _))
      (pss_one (ps_ret pe_int))
      pss_nil)
    (pss_cons (ps_set (i := 3) sc__law_draw.nd rfl (.inl rfl) (pe_ix ix_list (pv 0) pe_int (fun _ _ => rfl)))
    (pss_cons (ps_asg (pe_op op_add (pv 3) pe_int) (pg_sub (pv 0) pe_int set_list))
    (pss_cons (ps_set (i := 4) sc__law_draw.nd rfl (.inl rfl) (pe_ix ix_list (pe_ix ix_list (pv 0) pe_int (fun _ _ => rfl)) (pe_op op_mod (pe_callTy call_int1 (by rfl) m_int (by decide +kernel) (pa_cons (pv 3) pa_nil)) (pe_callB call_len_seq (by rfl) m_len PySem.boot_len (pa_cons (pe_ix ix_list (pv 0) pe_int (fun _ _ => rfl)) pa_nil))) (fun _ _ => rfl)))
    (pss_cons (ps_if (PW.pt (pw_and (pt_cmpR op_lt (pv 3) (pe_callB call_len_seq (by rfl) m_len PySem.boot_len (pa_cons (pe_ix ix_list (pv 0) pe_int (fun _ _ => rfl)) pa_nil)) (nomark _)) (pw_and1 (pt_cmpR op_ge (pe_callB call_abs (by rfl) m_abs (by decide +kernel) (pa_cons (pv 4) pa_nil)) (pe_op op_pow pe_int pe_int) (nomark _)))))
      (pss_cons (ps_set (i := 2) sc__law_draw.nd rfl (.inl rfl) (pe_op op_add (pe_op op_mul pe_int (pe_op op_sub (pe_callB call_abs (by rfl) m_abs (by decide +kernel) (pa_cons (pv 4) pa_nil)) (pe_op op_pow pe_int pe_int))) (pe_callTy call_int1 (by rfl) m_int (by decide +kernel) (pa_cons (pe_cmpR op_lt (pv 4) pe_int (nomark _)) pa_nil))))
      (pss_cons (ps_asg (pe_op op_fdiv (pv 2) (pv 1)) (pg_sub (pv 0) pe_int set_list))
      (pss_one (ps_ret (pe_op op_mod (pv 2) (pv 1))))))
      pss_nil)
    (pss_cons (ps_set (i := 5) sc__law_draw.nd rfl (.inl rfl) (pe_op op_mod (pe_callTy call_int1 (by rfl) m_int (by decide +kernel) (pa_cons (pe_op op_pow (pe_op op_add (pe_op op_add (pe_op op_mod (pe_callTy call_int1 (by rfl) m_int (by decide +kernel) (pa_cons (pv 4) pa_nil)) pe_int) (pe_op op_mul pe_int (pv 3))) pe_int) pe_int) pa_nil)) pe_int))
    (pss_cons (ps_set (i := 5) sc__law_draw.nd rfl (.inl rfl) (pe_op op_mod (pe_callTy call_int1 (by rfl) m_int (by decide +kernel) (pa_cons (pe_op op_pow (pe_op op_add (pe_op op_add (pe_op op_mul (pv 5) (pe_op op_add (pe_op op_mul pe_int (pv 3)) pe_int)) (pe_op op_mul (pe_op op_mul pe_int (pv 3)) (pv 3))) pe_int) pe_int) pa_nil)) pe_int))
    (pss_one (ps_ret (pe_op op_mod (pe_callTy call_int1 (by rfl) m_int (by decide +kernel) (pa_cons (pe_op op_fdiv (pv 5) pe_int) pa_nil)) (pv 1))))))))))))), ?_⟩
    -- rest = int(pen[2])
    refine ⟨_, rfl, g, _, 2, .int r, rfl, rfl, SqL.of G.g, rfl, .inl ⟨_, rfl, ?_⟩⟩
    refine ⟨_, rfl, _, _, rfl, rfl, _, rfl, ite2 (fun h2 => ?_) (fun h2 => ?_)⟩
    · have h2' : 0 < r := of_decide_eq_true (p := (0 : Int) < r) h2
      refine ⟨_, rfl, _, rfl, _, _, rfl, rfl, ⟨m0, by omega⟩, _, rfl, g, _, 2, 2, rfl, rfl, G.g, rfl, ?_⟩
      refine ⟨_, rfl, _, rfl, _, _, rfl, rfl, m0, ?_⟩
      exact q (r % many) a (r / many) _ (Int.emod_nonneg _ (Int.ne_of_gt m0)) (Int.emod_lt_of_pos _ m0) (by omega) (G.put rfl G.a0 (Int.ediv_nonneg (Int.le_of_lt h2') (Int.le_of_lt m0))) HG.Kp.at
    -- pen[0] == []
    · refine ⟨_, rfl, g, _, 0, .ref c, rfl, rfl, SqL.of G.g, rfl, Nat.zero_le _, fun e ne => ?_⟩
      have G1 := G.new (o := .lst []) ne
      have k1 : HG.Kp g H (upd H e (.lst [])) := HG.Kp.new ne
      refine ⟨.list (ns.map PyData.int), .list [], .lst (SqL.of G1.c) (HD.dp_ints ns), .lst (SqL.of upd_same) .nil, HD.shaped_ints ns, rfl, _, rfl, ?_⟩
      rw [HD.eqv_nil]
      refine ite2 (fun hn => ?_) (fun hn => ?_)
      · exact q 0 a r _ (Int.le_refl 0) m0 (by omega) G1 k1
      · have hne : ns ≠ [] := fun z => hn (decide_eq_true z)
        have hl : 0 < ns.length := List.length_pos_iff.mpr hne
        -- at = pen[1]; pen[1] = at + 1
        refine ⟨_, rfl, g, _, 1, .int a, rfl, rfl, SqL.of G1.g, rfl, ?_⟩
        refine ⟨_, rfl, _, _, rfl, rfl, _, rfl, g, _, 1, 1, rfl, rfl, G1.g, rfl, ?_⟩
        have G2 : HD.Gau (upd (upd H e (.lst [])) g (.lst [.ref c, .int (a + 1), .int r])) g c ns (a + 1) r := G1.put rfl (by have := G.a0; omega) G.r0
        have k2 : HG.Kp g H (upd (upd H e (.lst [])) g (.lst [.ref c, .int (a + 1), .int r])) := k1.trans HG.Kp.at
        -- cell = gauge[0][int(at) % len(gauge[0])]
        obtain ⟨cell, hcell⟩ := HD.cell_at hl a
        refine ⟨_, rfl, g, _, 0, .ref c, rfl, rfl, SqL.of G2.g, rfl, _, rfl, .inl ⟨_, rfl, _, rfl, g, _, 0, .ref c, rfl, rfl, SqL.of G2.g, rfl, c, _, rfl, .inl (SqL.of G2.c), _, _, rfl, rfl, ?_, ?_⟩⟩
        · rw [List.length_map]; omega
        refine ⟨c, _, _, .int cell, rfl, rfl, SqL.of G2.c, by rw [List.length_map]; exact hcell, ?_⟩
        have a0 := G.a0
        -- if at < len(gauge[0]) and abs(cell) >= 10 ** 18
        refine ⟨_, rfl, _, rfl, g, _, 0, .ref c, rfl, rfl, SqL.of G2.g, rfl, c, _, rfl, .inl (SqL.of G2.c), _, _, rfl, rfl, _, rfl, HD.iteS ?_ (fun _ tl => ?_)⟩
        · -- the mixed ones
          refine iteF ?_
          refine ⟨_, rfl, .inl ⟨_, rfl, _, _, rfl, rfl, (by show (0 : Int) < 2147483563; decide), _, rfl, _, _, rfl, rfl, .inl ⟨by decide, by decide⟩, _, _, rfl, rfl, _, _, rfl, rfl, _, _, rfl, rfl, ⟨by decide, by decide, ?_⟩, .inl ⟨_, rfl, _, _, rfl, rfl, (by show (0 : Int) < 2147483549; decide), ?_⟩⟩⟩
          · exact HD.small_pow (Int.emod_nonneg _ (by decide)) (Int.emod_lt_of_pos _ (by decide)) a0 a1 (by decide) (by decide) (by decide) (by decide) (by decide)
          generalize hm : (cell % (2147483563 : Int) + 61001 * a + 12007) ^ (Int.toNat 5) = big
          have b0 := Int.emod_nonneg big (show (2147483549 : Int) ≠ 0 by decide)
          have b1 := Int.emod_lt_of_pos big (show (0 : Int) < 2147483549 by decide)
          refine ⟨_, rfl, _, rfl, _, _, rfl, rfl, .inl ⟨by decide, by decide⟩, _, _, rfl, rfl, _, _, rfl, rfl, .inl ⟨by omega, by omega⟩, _, rfl, _, _, rfl, rfl, .inl ⟨by decide, by decide⟩, _, rfl, _, _, rfl, rfl, .inl ⟨by omega, by omega⟩, _, _, rfl, rfl, _, _, rfl, rfl, _, _, rfl, rfl, ⟨by decide, by decide, ?_⟩, .inl ⟨_, rfl, _, _, rfl, rfl, (by show (0 : Int) < 2147483587; decide), ?_⟩⟩
          · exact HD.small_pow2 b0 b1 a0 a1 (by decide) (by decide) (by decide) (by decide) (by decide) (by decide) (by decide)
          refine ⟨_, rfl, _, _, rfl, rfl, ⟨by decide, by decide⟩, .inl ⟨_, rfl, _, rfl, _, _, rfl, rfl, m0, ?_⟩⟩
          exact q _ (a + 1) r _ (Int.emod_nonneg _ (Int.ne_of_gt m0)) (Int.emod_lt_of_pos _ m0) (by omega) G2 k2
        · refine ⟨_, rfl, _, rfl, _, _, rfl, rfl, ⟨by decide, by decide, by decide⟩, _, _, rfl, rfl, _, rfl, ite2 (fun h5 => ?_) (fun _ => tl)⟩
          have h6 : ((10 : Int) ^ (Int.toNat 18)) ≤ (if cell < 0 then -cell else cell) := of_decide_eq_true h5
          refine ⟨_, rfl, _, rfl, _, _, rfl, rfl, ⟨by decide, by decide, by decide⟩, _, _, rfl, rfl, _, _, rfl, rfl, .inl ⟨by decide, by decide⟩, _, rfl, _, _, rfl, rfl, .inr ⟨_, rfl, _, _, rfl, rfl, ?_⟩⟩
          have h7 := HD.abs_ge h6 (if decide (cell < 0) = true then 1 else 0) (by split <;> decide)
          refine ⟨_, rfl, _, rfl, _, _, rfl, rfl, ⟨m0, by omega⟩, _, rfl, g, _, 2, 2, rfl, rfl, G2.g, rfl, ?_⟩
          refine ⟨_, rfl, _, rfl, _, _, rfl, rfl, m0, ?_⟩
          exact q _ (a + 1) _ _ (Int.emod_nonneg _ (Int.ne_of_gt m0)) (Int.emod_lt_of_pos _ m0) (by omega) (G2.put rfl (by omega) (Int.ediv_nonneg h7 (Int.le_of_lt m0))) (k2.trans HG.Kp.at)
theorem ok__law_one_of (T : HG.Tp K mg "_law_one_of" s__law_one_of ["pen", "some"]) (o__law_draw : HG.Df P w K mg base CX0 1 "_law_draw" ["pen", "many"] HD.spDraw) (m_len : mg "len" = none) : FnOk P w K mg base CX0 2 T.f T.fd ["pen", "some"] (HD.spOne K) := by
  refine T.F.ok sc__law_one_of (fun vs H Q E h => ?_) (fun cdv A outer s H vs Q E hr h => ?_)
  · obtain ⟨g, c, ns, a, r, l, xs, rfl, _⟩ := h
    rfl
  · obtain ⟨g, c, ns, a, r, l, xs, rfl, G, a1, lg, hL, hx, hl, q⟩ := h
    have h0 : 0 < xs.length := List.length_pos_iff.mpr hx
    refine ⟨_, (pss_one (ps_ret (pe_ix ix_list (pv 1) (HG.pe_c o__law_draw hr (pa_cons (pv 0) (pa_cons (pe_callB call_len_seq (by rfl) m_len PySem.boot_len (pa_cons (pv 1) pa_nil)) pa_nil))) (fun _ _ => rfl)))), ?_⟩
    refine ⟨_, rfl, _, rfl, _, rfl, l, xs, rfl, .inl hL, g, c, ns, a, r, _, rfl, G, by omega, by omega, a1, fun x a' r' H' x0 x1 ha G' kp => ?_⟩
    have hx2 : x.toNat < xs.length := by omega
    refine ⟨l, xs, x, xs[x.toNat], rfl, rfl, kp.seq lg hL, ?_, ?_⟩
    · have e := atI_nat (List.getElem?_eq_getElem hx2)
      rw [Int.toNat_of_nonneg x0] at e
      exact e
    · exact q _ a' r' H' (List.getElem_mem hx2) ha G' kp
end
end K14
namespace K14
open PySem PySem.Spec PyProof.Rows L2
abbrev s__law_by_turns : Stmt := topS 15
theorem sc__law_by_turns : FnScope ["labels", "left", "begin", "last", "least", "here", "sign", "label"] ["labels"] (defScope s__law_by_turns) := ⟨rfl, rfl, rfl, by decide +kernel, rfl, by decide +kernel, by decide +kernel⟩
/-! ### the law's own way: the least amount, again and again -/
def gap (x : Int) : List Int → Bool
  | [] => true
  | y :: _ => decide (HS.absI x < HS.absI y)
def okT : V → List Int → Bool
  | _, [] => true
  | lst, x :: r => !decide (signV x = lst) && (gap x r && okT (signV x) r)
def firstV : List Int → V
  | [] => .non
  | x :: _ => signV x
def res (bg lst : V) (S : List Int) : V := if okT lst S = true then (if bg = .non then firstV S else bg) else .non
theorem sign_eq (x y : Int) : decide (signV y = signV x) = decide (V.bl (decide (0 < x)) = V.bl (decide (0 < y))) := by
  unfold signV
  cases decide (0 < x) <;> cases decide (0 < y) <;> decide
theorem sign_ne (x : Int) : signV x ≠ .non := by
  unfold signV
  cases decide (0 < x) <;> decide
theorem okT_adj : ∀ (x : Int) (r : List Int) (lst : V), okT lst (x :: r) = (!decide (signV x = lst) && (adj (x :: r)).all id)
  | x, [], lst => rfl
  | x, y :: r, lst => by
    show (!decide (signV x = lst) && (decide (HS.absI x < HS.absI y) && okT (signV x) (y :: r))) = (!decide (signV x = lst) && (isTurn x y && (adj (y :: r)).all id))
    rw [okT_adj y r (signV x), sign_eq]
    unfold isTurn
    rw [Bool.and_assoc]
theorem res_start (S : List Int) : res .non .non S = ansS S := by
  cases S with
  | nil => rfl
  | cons x r =>
    unfold res ansS
    rw [okT_adj, decide_eq_false (sign_ne x)]
    rfl
theorem abs_sorted (ns : List Int) : (HS.sortAbs ns).Pairwise (fun a b => HS.absI a ≤ HS.absI b) := by
  have h := List.pairwise_mergeSort (le := fun a b : Int => decide (HS.absI a ≤ HS.absI b)) (fun a b c h1 h2 => by
    simp only [decide_eq_true_eq] at h1 h2 ⊢
    omega) (fun a b => by
    simp only [Bool.or_eq_true, decide_eq_true_eq]
    omega) ns
  exact h.imp (fun h => of_decide_eq_true h)
/-- the turn's lists -/
theorem filt_eq {x : Int} {r l : List Int} (hp : l.Perm (x :: r)) (hs : (x :: r).Pairwise (fun a b => HS.absI a ≤ HS.absI b)) (hg : gap x r = true) : l.filter (fun y => decide (HS.absI y = HS.absI x)) = [x] ∧ (l.filter (fun y => !decide (HS.absI y = HS.absI x))).Perm r := by
  have hlt : ∀ y ∈ r, HS.absI x < HS.absI y := by
    cases r with
    | nil => intro y hy; cases hy
    | cons z r =>
      have h1 : HS.absI x < HS.absI z := of_decide_eq_true hg
      intro y hy
      rcases List.mem_cons.mp hy with rfl | hy
      · exact h1
      · have h2 := (List.pairwise_cons.mp (List.pairwise_cons.mp hs).2).1 y hy
        omega
  have e1 : (x :: r).filter (fun y => decide (HS.absI y = HS.absI x)) = [x] := by
    rw [List.filter_cons_of_pos (by simp)]
    rw [List.filter_eq_nil_iff.mpr (fun y hy => by have := hlt y hy; simp; omega)]
  have e2 : (x :: r).filter (fun y => !decide (HS.absI y = HS.absI x)) = r := by
    rw [List.filter_cons_of_neg (by simp)]
    exact List.filter_eq_self.mpr (fun y hy => by have := hlt y hy; simp; omega)
  constructor
  · have h := hp.filter (fun y => decide (HS.absI y = HS.absI x))
    rw [e1] at h
    exact List.perm_singleton.mp h
  · have h := hp.filter (fun y => !decide (HS.absI y = HS.absI x))
    rw [e2] at h
    exact h
theorem filt_two {x : Int} {r l : List Int} (hp : l.Perm (x :: r)) (hs : (x :: r).Pairwise (fun a b => HS.absI a ≤ HS.absI b)) (hg : gap x r = false) : 1 < (l.filter (fun y => decide (HS.absI y = HS.absI x))).length := by
  rw [(hp.filter _).length_eq]
  cases r with
  | nil => cases hg
  | cons z r =>
    have h1 : ¬ HS.absI x < HS.absI z := of_decide_eq_false hg
    have h2 := (List.pairwise_cons.mp hs).1 z List.mem_cons_self
    have h3 : HS.absI z = HS.absI x := by omega
    rw [List.filter_cons_of_pos (by simp), List.filter_cons_of_pos (by simp [h3])]
    show 1 < _ + 1 + 1
    omega
theorem least_is {x m : Int} {r l : List Int} (hp : l.Perm (x :: r)) (hs : (x :: r).Pairwise (fun a b => HS.absI a ≤ HS.absI b)) (hm : m ∈ l.map HS.absI) (hle : ∀ y ∈ l.map HS.absI, m ≤ y) : m = HS.absI x := by
  have h1 : m ≤ HS.absI x := hle _ (List.mem_map.mpr ⟨x, hp.mem_iff.mpr List.mem_cons_self, rfl⟩)
  obtain ⟨y, hy, rfl⟩ := List.mem_map.mp hm
  rcases List.mem_cons.mp (hp.mem_iff.mp hy) with rfl | h
  · rfl
  · have h2 := (List.pairwise_cons.mp hs).1 y h
    omega
theorem noNone (ns : List Int) : inV .non (ns.map V.int) = false := by
  unfold inV
  rw [List.any_map, List.any_eq_false]
  intro n _ h
  cases h
theorem allFlat (ns : List Int) : (ns.map V.int).all flatV = true := by
  rw [List.all_map, List.all_eq_true]
  intro n _
  rfl
theorem neqv_nil (ns : List Int) : (!PyData.eqv (.list (ns.map PyData.int)) (.list [])) = decide (ns ≠ []) := by
  rw [HD.eqv_nil]
  by_cases h : ns = [] <;> simp [h]
section
variable {P : Program} {w : World} {K : PySem.W.Frag} {mg : Str → Option Value} {base : Heap}
def spOwn : Sp := fun vs H Q _ => ∃ (p : Addr) (ns : List Int), vs = [.ref p] ∧ H p = some (.lst (ns.map V.int)) ∧ ns.length ≤ 1000 ∧ ∀ H', Grow H H' → Q (ansS (HS.sortAbs ns)) H'
theorem ok__law_by_turns (T : HG.Tp K mg "_law_by_turns" s__law_by_turns ["labels"]) (m_abs : mg "abs" = none) (m_len : mg "len" = none) (m_list : mg "list" = none) (m_min : mg "min" = none) : FnOk P w K mg base CX0 1 T.f T.fd ["labels"] spOwn := by
  refine T.F.ok sc__law_by_turns (fun vs H Q E h => ?_) (fun cdv A outer s H vs Q E hr h => ?_)
  · obtain ⟨p, ns, rfl, _⟩ := h
    rfl
  · obtain ⟨p, ns, rfl, hp, hlen, q⟩ := h
    refine ⟨_, (pss_cons (ps_if (pt_cmpR op_in_seq pe_non (pv 0) rfl)
      (pss_one (ps_ret pe_non))
      pss_nil)
    (pss_cons (ps_par3 (i := 1) (j := 2) (l := 3) (by rfl) sc__law_by_turns.nd rfl rfl rfl (by decide) (by decide) (by decide) rfl rfl rfl (pa_cons (pe_callTy call_list_of (by rfl) m_list (by decide +kernel) (pa_cons (pv 0) pa_nil)) (pa_cons pe_non (pa_cons pe_non pa_nil))) (by rfl))
    (pss_cons (ps_while PassesOwn.never (pt_cmpR (op_neD hr.units) (pv 1) (pe_lst pa_nil) (nomark _))
      (pss_cons (ps_set (i := 4) sc__law_by_turns.nd rfl (.inr rfl) (pe_callB (cr_min rfl) (by rfl) m_min (by decide +kernel) (pa_cons (pe_lc (own := [("label", 7)]) (by rfl) sc__law_by_turns.nd (pi_list (pv 1)) (blkOk_by (N := ["labels", "left", "begin", "last", "least", "here", "sign", "label"]) (sc := defScope s__law_by_turns) (by decide +kernel)) (fun _ _ _ _ _ => (pg_name (i := 7) sc__law_by_turns.nd rfl (Or.inl rfl))) (fun _ _ _ _ _ => pts_nil) (fun _ _ _ _ _ => (pe_callB call_abs (by rfl) m_abs (by decide +kernel) (pa_cons (pv 7) pa_nil)))) pa_nil)))
      (pss_cons (ps_setLc (i := 5) (own := [("label", 7)]) rfl sc__law_by_turns.nd rfl rfl (sw_true rfl rfl rfl (by decide +kernel)) (pi_list (pv 1)) (blkOk_by (N := ["labels", "left", "begin", "last", "least", "here", "sign", "label"]) (sc := defScope s__law_by_turns) (by decide +kernel)) (fun _ _ _ _ _ => (pg_name (i := 7) sc__law_by_turns.nd rfl (Or.inl rfl))) (fun _ _ _ _ _ => (pts_one (pt_cmpR op_eq (pe_callB call_abs (by rfl) m_abs (by decide +kernel) (pa_cons (pv 7) pa_nil)) (pv 4) (nomark _)))) (fun _ _ _ _ _ => (pv 7)))
      (pss_cons (ps_set (i := 6) sc__law_by_turns.nd rfl (.inl rfl) (pe_ifExp (pt_cmpR op_gt (pe_ix ix_list (pv 5) pe_int (fun _ _ => rfl)) pe_int (nomark _)) pe_str pe_str))
      (pss_cons (ps_if (PW.pt (pw_or (pt_cmpR op_gt (pe_callB call_len_seq (by rfl) m_len PySem.boot_len (pa_cons (pv 5) pa_nil)) pe_int (nomark _)) (pw_or1 (pt_cmpR op_eq (pv 6) (pv 3) (nomark _)))))
        (pss_one (ps_ret pe_non))
        pss_nil)
      (pss_cons (ps_par (i := 2) (j := 3) (by rfl) sc__law_by_turns.nd rfl rfl (by decide) rfl rfl (pa_cons (pe_ifExp (pt_cmpR op_isN (pv 2) pe_non (nomark _)) (pv 6) (pv 2)) (pa_cons (pv 6) pa_nil)) (by rfl))
      (pss_one (ps_setLc (i := 1) (own := [("label", 7)]) rfl sc__law_by_turns.nd rfl rfl (sw_true rfl rfl rfl (by decide +kernel)) (pi_list (pv 1)) (blkOk_by (N := ["labels", "left", "begin", "last", "least", "here", "sign", "label"]) (sc := defScope s__law_by_turns) (by decide +kernel)) (fun _ _ _ _ _ => (pg_name (i := 7) sc__law_by_turns.nd rfl (Or.inl rfl))) (fun _ _ _ _ _ => (pts_one (pt_cmpR op_ne (pe_callB call_abs (by rfl) m_abs (by decide +kernel) (pa_cons (pv 7) pa_nil)) (pv 4) (nomark _)))) (fun _ _ _ _ _ => (pv 7))))))))))
    (pss_one (ps_ret (pv 2)))))), ?_⟩
    -- if None in labels
    refine ⟨_, rfl, p, ns.map V.int, rfl, .inl (SqL.of hp), rfl, allFlat ns, _, rfl, ?_⟩
    rw [if_neg Bool.false_ne_true, noNone]
    refine iteF ?_
    -- left, begin, last
    refine ⟨_, rfl, p, _, rfl, .inl (SqL.of hp), fun l0 nl0 => ?_⟩
    refine ⟨_, _, _, rfl, ?_⟩
    refine ⟨fun m σ H2 => ∃ (lp : Addr) (l S : List Int) (bg lst : V) (y4 y5 y6 y7 : Option V), σ = [some (.ref p), some (.ref lp), some bg, some lst, y4, y5, y6, y7] ∧ Grow H H2 ∧ H2 lp = some (.lst (l.map V.int)) ∧ l.Perm S ∧
        S.Pairwise (fun a b => HS.absI a ≤ HS.absI b) ∧ m = l.length ∧ l.length ≤ 1000 ∧ (lst = .non ∨ ∃ x, lst = signV x) ∧ (bg = .non ∨ ∃ x, bg = signV x) ∧ res bg lst S = ansS (HS.sortAbs ns),
      ⟨ns.length, l0, ns, HS.sortAbs ns, .non, .non, none, none, none, none, rfl, Grow.new nl0, upd_same, (HS.sortAbs_perm ns).symm, abs_sorted ns, rfl, hlen, .inl rfl, .inl rfl, res_start _⟩, ?_⟩
    rintro m σ H2 ⟨lp, l, S, bg, lst, y4, y5, y6, y7, rfl, g2, hl, hpm, hso, rfl, hll, hlst, hbg, hres⟩
    -- left != []
    refine ⟨_, rfl, Nat.zero_le _, fun e0 ne0 => ?_⟩
    have g3 : Grow H2 (upd H2 e0 (.lst [])) := Grow.new ne0
    refine ⟨.list (l.map PyData.int), .list [], .lst (SqL.of (g3 _ _ hl)) (HD.dp_ints l), .lst (SqL.of upd_same) .nil, HD.shaped_ints l, rfl, _, rfl, ?_⟩
    rw [neqv_nil]
    refine ite2 (fun hn => ?_) (fun hn => ?_)
    · have hne : l ≠ [] := of_decide_eq_true hn
      obtain ⟨x, r, rfl⟩ : ∃ x r, S = x :: r := by
        cases S with
        | nil => exact absurd hpm.eq_nil hne
        | cons x r => exact ⟨x, r, rfl⟩
      have hl3 := g3 _ _ hl
      refine ⟨_, fun σ' H' h => h, ?_⟩
      -- least = min([abs(label) for label in left])
      refine ⟨_, rfl, lp, rfl, ⟨_, SqL.of hl3⟩, fun D nD => ?_⟩
      refine lc_list (K := K) (a := lp) (xs := l.map V.int) (fun i H5 => Grow (upd H2 e0 (.lst [])) H5 ∧ H5 D = some (.lst (((l.take i).map HS.absI).map V.int))) ⟨Grow.new nD, upd_same⟩ (fun i H5 _ z => SqL.of (z.1 _ _ hl3)) ?_ ?_
      · rintro i y H5 hy ⟨k5, e5⟩
        obtain ⟨n, hn5, rfl⟩ := HD.get_map hy
        refine ⟨rfl, ?_⟩
        refine ⟨_, rfl, _, rfl, _, e5, ?_, fun q0 o e => ?_, ?_⟩
        · rw [List.length_map, List.length_map, List.length_take]
          exact small1000 (by omega)
        · rw [upd_ne (ne_of_none e nD)]
          exact k5 q0 o e
        · rw [upd_same, HD.take_snoc hn5, List.map_append, List.map_append]
          rfl
      rintro H5 ⟨k5, e5⟩
      rw [List.length_map, List.take_of_length_le (Nat.le_refl _)] at e5
      refine ⟨D, l.map HS.absI, rfl, SqL.of e5, by rw [List.length_map]; exact List.length_pos_iff.mpr hne, fun m hm hle => ?_⟩
      have em := least_is hpm hso hm hle
      subst em
      have g5 : Grow H H5 := (g2.trans g3).trans k5
      have hl5 := k5 _ _ hl3
      -- here
      refine ⟨_, rfl, lp, rfl, ⟨_, SqL.of hl5⟩, fun D2 nD2 => ?_⟩
      refine lc_list (K := K) (a := lp) (xs := l.map V.int) (fun i H6 => Grow H5 H6 ∧ H6 D2 = some (.lst (((l.take i).filter (fun y => decide (HS.absI y = HS.absI x))).map V.int))) ⟨Grow.new nD2, upd_same⟩ (fun i H6 _ z => SqL.of (z.1 _ _ hl5)) ?_ ?_
      · rintro i y H6 hy ⟨k6, e6⟩
        obtain ⟨n, hn6, rfl⟩ := HD.get_map hy
        refine ⟨rfl, ?_⟩
        refine ⟨_, rfl, _, rfl, _, rfl, rfl, _, rfl, ite2 (fun h => ?_) (fun h => ?_)⟩
        · have hc : HS.absI n = HS.absI x := V.int.inj (of_decide_eq_true h)
          refine ⟨_, rfl, _, e6, ?_, fun q0 o e => ?_, ?_⟩
          · rw [List.length_map]
            have := List.length_filter_le (fun y => decide (HS.absI y = HS.absI x)) (l.take i)
            rw [List.length_take] at this
            exact small1000 (by omega)
          · rw [upd_ne (ne_of_none e nD2)]
            exact k6 q0 o e
          · rw [upd_same, HD.take_snoc hn6, List.filter_append, List.filter_cons_of_pos (by simp [hc]), List.filter_nil, List.map_append]
            rfl
        · have hc : ¬ HS.absI n = HS.absI x := fun z => h (decide_eq_true (congrArg V.int z))
          exact ⟨k6, by rw [e6, HD.take_snoc hn6, List.filter_append, List.filter_cons_of_neg (by simp [hc]), List.filter_nil, List.append_nil]⟩
      rintro H6 ⟨k6, e6⟩
      rw [List.length_map, List.take_of_length_le (Nat.le_refl _)] at e6
      have hsc : ∀ z, scal (.str z) lst = true := fun z => by
        rcases hlst with rfl | ⟨y, rfl⟩
        · rfl
        · unfold signV
          split <;> rfl
      cases hg : gap x r with
      | false =>
        have h2 := filt_two hpm hso hg
        have qn : Q .non H6 := by
          have e8 : res bg lst (x :: r) = .non := by
            unfold res okT
            rw [hg, Bool.false_and, Bool.and_false]
            rfl
          rw [e8] at hres
          have qq := q H6 (g5.trans k6)
          rw [← hres] at qq
          exact qq
        generalize l.filter (fun y => decide (HS.absI y = HS.absI x)) = hh at e6 h2
        obtain ⟨a, b, rest, rfl⟩ : ∃ a b rest, hh = a :: b :: rest := match hh, h2 with | a :: b :: rest, _ => ⟨a, b, rest, rfl⟩
        refine ⟨_, rfl, D2, _, 0, .int a, rfl, rfl, SqL.of e6, atI_nat (j := 0) rfl, _, _, rfl, rfl, _, rfl, ?_⟩
        cases hd : decide ((0 : Int) < a) with
        | true =>
          have es : signV a = .str "+" := if_pos hd
          refine iteT ?_
          refine ⟨_, rfl, D2, _, rfl, .inl (SqL.of e6), _, _, rfl, rfl, _, rfl, ?_⟩
          rw [show decide ((1 : Int) < ((((a :: b :: rest).map V.int).length : Nat) : Int)) = true from decide_eq_true (by rw [List.length_map, List.length_cons, List.length_cons]; omega)]
          exact iteT (iteT qn)
        | false =>
          have es : signV a = .str "-" := by unfold signV; rw [hd]; rfl
          refine iteF ?_
          refine ⟨_, rfl, D2, _, rfl, .inl (SqL.of e6), _, _, rfl, rfl, _, rfl, ?_⟩
          rw [show decide ((1 : Int) < ((((a :: b :: rest).map V.int).length : Nat) : Int)) = true from decide_eq_true (by rw [List.length_map, List.length_cons, List.length_cons]; omega)]
          exact iteT (iteT qn)

      | true =>
        obtain ⟨f1, f2⟩ := filt_eq hpm hso hg
        rw [f1] at e6
        refine ⟨_, rfl, D2, _, 0, .int x, rfl, rfl, SqL.of e6, atI_nat (j := 0) rfl, _, _, rfl, rfl, _, rfl, ?_⟩
        cases hd : decide ((0 : Int) < x) with
        | true =>
          have es : signV x = .str "+" := if_pos hd
          refine iteT ?_
          refine ⟨_, rfl, D2, _, rfl, .inl (SqL.of e6), _, _, rfl, rfl, _, rfl, ?_⟩
          rw [show decide ((1 : Int) < ((([x].map V.int).length : Nat) : Int)) = false from rfl]
          refine iteF ?_
          refine ⟨_, rfl, _, rfl, hsc _, _, rfl, ?_⟩
          rw [← es]
          refine ite2 (fun h7 => ?_) (fun h7 => ?_)
          · have h8 : signV x = lst := of_decide_eq_true h7
            have e8 : res bg lst (x :: r) = .non := by
              unfold res okT
              rw [decide_eq_true h8]
              rfl
            rw [e8] at hres
            have qq := q H6 (g5.trans k6)
            rw [← hres] at qq
            exact qq
          · have h8 : signV x ≠ lst := fun z => h7 (decide_eq_true z)
            have e8 : res bg lst (x :: r) = res (if bg = .non then signV x else bg) (signV x) r := by
              unfold res
              rw [show okT lst (x :: r) = okT (signV x) r by
                show (!decide (signV x = lst) && (gap x r && okT (signV x) r)) = _
                rw [decide_eq_false h8, hg]
                rfl]
              have hb2 : (if bg = .non then signV x else bg) ≠ .non := by
                by_cases h : bg = .non
                · rw [if_pos h]; exact sign_ne x
                · rw [if_neg h]; exact h
              rw [if_neg hb2]
              rfl
            refine ⟨_, rfl, rfl, _, rfl, ?_⟩
            rcases hbg with hb0 | ⟨y0, hb0⟩
            · rw [hb0, decide_eq_true rfl]
              refine iteT ⟨_, rfl, _, rfl, _, _, rfl, ?_⟩
              rw [hb0, if_pos rfl] at e8
              rw [← hb0] at e8
              have hl6 := k6 _ _ hl5
              refine ⟨_, rfl, lp, rfl, ⟨_, SqL.of hl6⟩, fun D3 nD3 => ?_⟩
              refine lc_list (K := K) (a := lp) (xs := l.map V.int) (fun i H7 => Grow H6 H7 ∧ H7 D3 = some (.lst (((l.take i).filter (fun y => !decide (HS.absI y = HS.absI x))).map V.int))) ⟨Grow.new nD3, upd_same⟩ (fun i H7 _ z => SqL.of (z.1 _ _ hl6)) ?_ ?_
              · rintro i y H7 hy ⟨k7, e7⟩
                obtain ⟨n, hn7, rfl⟩ := HD.get_map hy
                refine ⟨rfl, ?_⟩
                refine ⟨_, rfl, _, rfl, _, rfl, rfl, _, rfl, ?_⟩
                by_cases hc : HS.absI n = HS.absI x
                · rw [show (!decide (V.int (if n < 0 then -n else n) = V.int (HS.absI x))) = false by rw [show (if n < 0 then -n else n) = HS.absI x from hc, decide_eq_true rfl]; rfl]
                  refine iteF ?_
                  exact ⟨k7, by rw [e7, HD.take_snoc hn7, List.filter_append, List.filter_cons_of_neg (by simp [hc]), List.filter_nil, List.append_nil]⟩
                · rw [show (!decide (V.int (if n < 0 then -n else n) = V.int (HS.absI x))) = true by rw [decide_eq_false (show ¬ (V.int (if n < 0 then -n else n) = V.int (HS.absI x)) from fun z => hc (V.int.inj z))]; rfl]
                  refine iteT ?_
                  refine ⟨_, rfl, _, e7, ?_, fun q0 o e => ?_, ?_⟩
                  · rw [List.length_map]
                    have := List.length_filter_le (fun y => !decide (HS.absI y = HS.absI x)) (l.take i)
                    rw [List.length_take] at this
                    exact small1000 (by omega)
                  · rw [upd_ne (ne_of_none e nD3)]
                    exact k7 q0 o e
                  · rw [upd_same, HD.take_snoc hn7, List.filter_append, List.filter_cons_of_pos (by simp [hc]), List.filter_nil, List.map_append]
                    rfl
              rintro H7 ⟨k7, e7⟩
              rw [List.length_map, List.take_of_length_le (Nat.le_refl _)] at e7
              have hlen7 := f2.length_eq
              have hlen8 := hpm.length_eq
              rw [List.length_cons] at hlen8
              exact ⟨_, by omega, D3, _, r, (signV x), signV x, _, _, _, _, rfl, (g5.trans k6).trans k7, e7, f2, (List.pairwise_cons.mp hso).2, rfl, by omega, .inr ⟨x, rfl⟩, .inr ⟨x, rfl⟩, by rw [← hres, e8]⟩
            · rw [hb0, decide_eq_false (sign_ne y0)]
              refine iteF ⟨_, rfl, _, rfl, _, _, rfl, ?_⟩
              rw [hb0, if_neg (sign_ne y0)] at e8
              rw [← hb0] at e8
              have hl6 := k6 _ _ hl5
              refine ⟨_, rfl, lp, rfl, ⟨_, SqL.of hl6⟩, fun D3 nD3 => ?_⟩
              refine lc_list (K := K) (a := lp) (xs := l.map V.int) (fun i H7 => Grow H6 H7 ∧ H7 D3 = some (.lst (((l.take i).filter (fun y => !decide (HS.absI y = HS.absI x))).map V.int))) ⟨Grow.new nD3, upd_same⟩ (fun i H7 _ z => SqL.of (z.1 _ _ hl6)) ?_ ?_
              · rintro i y H7 hy ⟨k7, e7⟩
                obtain ⟨n, hn7, rfl⟩ := HD.get_map hy
                refine ⟨rfl, ?_⟩
                refine ⟨_, rfl, _, rfl, _, rfl, rfl, _, rfl, ?_⟩
                by_cases hc : HS.absI n = HS.absI x
                · rw [show (!decide (V.int (if n < 0 then -n else n) = V.int (HS.absI x))) = false by rw [show (if n < 0 then -n else n) = HS.absI x from hc, decide_eq_true rfl]; rfl]
                  refine iteF ?_
                  exact ⟨k7, by rw [e7, HD.take_snoc hn7, List.filter_append, List.filter_cons_of_neg (by simp [hc]), List.filter_nil, List.append_nil]⟩
                · rw [show (!decide (V.int (if n < 0 then -n else n) = V.int (HS.absI x))) = true by rw [decide_eq_false (show ¬ (V.int (if n < 0 then -n else n) = V.int (HS.absI x)) from fun z => hc (V.int.inj z))]; rfl]
                  refine iteT ?_
                  refine ⟨_, rfl, _, e7, ?_, fun q0 o e => ?_, ?_⟩
                  · rw [List.length_map]
                    have := List.length_filter_le (fun y => !decide (HS.absI y = HS.absI x)) (l.take i)
                    rw [List.length_take] at this
                    exact small1000 (by omega)
                  · rw [upd_ne (ne_of_none e nD3)]
                    exact k7 q0 o e
                  · rw [upd_same, HD.take_snoc hn7, List.filter_append, List.filter_cons_of_pos (by simp [hc]), List.filter_nil, List.map_append]
                    rfl
              rintro H7 ⟨k7, e7⟩
              rw [List.length_map, List.take_of_length_le (Nat.le_refl _)] at e7
              have hlen7 := f2.length_eq
              have hlen8 := hpm.length_eq
              rw [List.length_cons] at hlen8
              exact ⟨_, by omega, D3, _, r, (signV y0), signV x, _, _, _, _, rfl, (g5.trans k6).trans k7, e7, f2, (List.pairwise_cons.mp hso).2, rfl, by omega, .inr ⟨x, rfl⟩, .inr ⟨y0, rfl⟩, by rw [← hres, e8, hb0]⟩
        | false =>
          have es : signV x = .str "-" := by unfold signV; rw [hd]; rfl
          refine iteF ?_
          refine ⟨_, rfl, D2, _, rfl, .inl (SqL.of e6), _, _, rfl, rfl, _, rfl, ?_⟩
          rw [show decide ((1 : Int) < ((([x].map V.int).length : Nat) : Int)) = false from rfl]
          refine iteF ?_
          refine ⟨_, rfl, _, rfl, hsc _, _, rfl, ?_⟩
          rw [← es]
          refine ite2 (fun h7 => ?_) (fun h7 => ?_)
          · have h8 : signV x = lst := of_decide_eq_true h7
            have e8 : res bg lst (x :: r) = .non := by
              unfold res okT
              rw [decide_eq_true h8]
              rfl
            rw [e8] at hres
            have qq := q H6 (g5.trans k6)
            rw [← hres] at qq
            exact qq
          · have h8 : signV x ≠ lst := fun z => h7 (decide_eq_true z)
            have e8 : res bg lst (x :: r) = res (if bg = .non then signV x else bg) (signV x) r := by
              unfold res
              rw [show okT lst (x :: r) = okT (signV x) r by
                show (!decide (signV x = lst) && (gap x r && okT (signV x) r)) = _
                rw [decide_eq_false h8, hg]
                rfl]
              have hb2 : (if bg = .non then signV x else bg) ≠ .non := by
                by_cases h : bg = .non
                · rw [if_pos h]; exact sign_ne x
                · rw [if_neg h]; exact h
              rw [if_neg hb2]
              rfl
            refine ⟨_, rfl, rfl, _, rfl, ?_⟩
            rcases hbg with hb0 | ⟨y0, hb0⟩
            · rw [hb0, decide_eq_true rfl]
              refine iteT ⟨_, rfl, _, rfl, _, _, rfl, ?_⟩
              rw [hb0, if_pos rfl] at e8
              rw [← hb0] at e8
              have hl6 := k6 _ _ hl5
              refine ⟨_, rfl, lp, rfl, ⟨_, SqL.of hl6⟩, fun D3 nD3 => ?_⟩
              refine lc_list (K := K) (a := lp) (xs := l.map V.int) (fun i H7 => Grow H6 H7 ∧ H7 D3 = some (.lst (((l.take i).filter (fun y => !decide (HS.absI y = HS.absI x))).map V.int))) ⟨Grow.new nD3, upd_same⟩ (fun i H7 _ z => SqL.of (z.1 _ _ hl6)) ?_ ?_
              · rintro i y H7 hy ⟨k7, e7⟩
                obtain ⟨n, hn7, rfl⟩ := HD.get_map hy
                refine ⟨rfl, ?_⟩
                refine ⟨_, rfl, _, rfl, _, rfl, rfl, _, rfl, ?_⟩
                by_cases hc : HS.absI n = HS.absI x
                · rw [show (!decide (V.int (if n < 0 then -n else n) = V.int (HS.absI x))) = false by rw [show (if n < 0 then -n else n) = HS.absI x from hc, decide_eq_true rfl]; rfl]
                  refine iteF ?_
                  exact ⟨k7, by rw [e7, HD.take_snoc hn7, List.filter_append, List.filter_cons_of_neg (by simp [hc]), List.filter_nil, List.append_nil]⟩
                · rw [show (!decide (V.int (if n < 0 then -n else n) = V.int (HS.absI x))) = true by rw [decide_eq_false (show ¬ (V.int (if n < 0 then -n else n) = V.int (HS.absI x)) from fun z => hc (V.int.inj z))]; rfl]
                  refine iteT ?_
                  refine ⟨_, rfl, _, e7, ?_, fun q0 o e => ?_, ?_⟩
                  · rw [List.length_map]
                    have := List.length_filter_le (fun y => !decide (HS.absI y = HS.absI x)) (l.take i)
                    rw [List.length_take] at this
                    exact small1000 (by omega)
                  · rw [upd_ne (ne_of_none e nD3)]
                    exact k7 q0 o e
                  · rw [upd_same, HD.take_snoc hn7, List.filter_append, List.filter_cons_of_pos (by simp [hc]), List.filter_nil, List.map_append]
                    rfl
              rintro H7 ⟨k7, e7⟩
              rw [List.length_map, List.take_of_length_le (Nat.le_refl _)] at e7
              have hlen7 := f2.length_eq
              have hlen8 := hpm.length_eq
              rw [List.length_cons] at hlen8
              exact ⟨_, by omega, D3, _, r, (signV x), signV x, _, _, _, _, rfl, (g5.trans k6).trans k7, e7, f2, (List.pairwise_cons.mp hso).2, rfl, by omega, .inr ⟨x, rfl⟩, .inr ⟨x, rfl⟩, by rw [← hres, e8]⟩
            · rw [hb0, decide_eq_false (sign_ne y0)]
              refine iteF ⟨_, rfl, _, rfl, _, _, rfl, ?_⟩
              rw [hb0, if_neg (sign_ne y0)] at e8
              rw [← hb0] at e8
              have hl6 := k6 _ _ hl5
              refine ⟨_, rfl, lp, rfl, ⟨_, SqL.of hl6⟩, fun D3 nD3 => ?_⟩
              refine lc_list (K := K) (a := lp) (xs := l.map V.int) (fun i H7 => Grow H6 H7 ∧ H7 D3 = some (.lst (((l.take i).filter (fun y => !decide (HS.absI y = HS.absI x))).map V.int))) ⟨Grow.new nD3, upd_same⟩ (fun i H7 _ z => SqL.of (z.1 _ _ hl6)) ?_ ?_
              · rintro i y H7 hy ⟨k7, e7⟩
                obtain ⟨n, hn7, rfl⟩ := HD.get_map hy
                refine ⟨rfl, ?_⟩
                refine ⟨_, rfl, _, rfl, _, rfl, rfl, _, rfl, ?_⟩
                by_cases hc : HS.absI n = HS.absI x
                · rw [show (!decide (V.int (if n < 0 then -n else n) = V.int (HS.absI x))) = false by rw [show (if n < 0 then -n else n) = HS.absI x from hc, decide_eq_true rfl]; rfl]
                  refine iteF ?_
                  exact ⟨k7, by rw [e7, HD.take_snoc hn7, List.filter_append, List.filter_cons_of_neg (by simp [hc]), List.filter_nil, List.append_nil]⟩
                · rw [show (!decide (V.int (if n < 0 then -n else n) = V.int (HS.absI x))) = true by rw [decide_eq_false (show ¬ (V.int (if n < 0 then -n else n) = V.int (HS.absI x)) from fun z => hc (V.int.inj z))]; rfl]
                  refine iteT ?_
                  refine ⟨_, rfl, _, e7, ?_, fun q0 o e => ?_, ?_⟩
                  · rw [List.length_map]
                    have := List.length_filter_le (fun y => !decide (HS.absI y = HS.absI x)) (l.take i)
                    rw [List.length_take] at this
                    exact small1000 (by omega)
                  · rw [upd_ne (ne_of_none e nD3)]
                    exact k7 q0 o e
                  · rw [upd_same, HD.take_snoc hn7, List.filter_append, List.filter_cons_of_pos (by simp [hc]), List.filter_nil, List.map_append]
                    rfl
              rintro H7 ⟨k7, e7⟩
              rw [List.length_map, List.take_of_length_le (Nat.le_refl _)] at e7
              have hlen7 := f2.length_eq
              have hlen8 := hpm.length_eq
              rw [List.length_cons] at hlen8
              exact ⟨_, by omega, D3, _, r, (signV y0), signV x, _, _, _, _, rfl, (g5.trans k6).trans k7, e7, f2, (List.pairwise_cons.mp hso).2, rfl, by omega, .inr ⟨x, rfl⟩, .inr ⟨y0, rfl⟩, by rw [← hres, e8, hb0]⟩
    · have el : l = [] := Classical.not_not.mp (fun z => hn (decide_eq_true z))
      subst el
      have eS : S = [] := hpm.symm.eq_nil
      subst eS
      have e5 : res bg lst [] = bg := by
        unfold res
        rw [if_pos (show okT lst [] = true from rfl)]
        by_cases h : bg = .non
        · rw [if_pos h, h]; rfl
        · rw [if_neg h]
      rw [e5] at hres
      refine ⟨_, rfl, ?_⟩
      rw [hres]
      exact q _ (g2.trans g3)
end
end K14
namespace K14
open PySem PySem.Spec PyProof.Rows L2
abbrev s__law_drawn : Stmt := topS 16
theorem sc__law_drawn : FnScope ["pen", "amount", "sign", "found", "turn", "way", "at", "other", "shuffled"] ["pen"] (defScope s__law_drawn) := ⟨rfl, rfl, rfl, by decide +kernel, rfl, by decide +kernel, by decide +kernel⟩
def big : Nat := 10 ^ 50
/-- a list of labels at p, made since H0; b draws at most -/
structure FS (H0 : Hp) (g c : Addr) (ns : List Int) (a0 b : Int) (H : Hp) (p : Addr) (ls : List Int) : Prop where
  at_ : H p = some (.lst (ls.map V.int))
  new : H0 p = none
  nz : ∀ n ∈ ls, n ≠ 0 ∧ n.natAbs < big
  kp : HG.Kp g H0 H
  ga : ∃ a r, HD.Gau H g c ns a r ∧ a ≤ a0 + b
theorem kp_put {H0 H : Hp} {g p : Addr} {o : HO} (k : HG.Kp g H0 H) (n : H0 p = none) : HG.Kp g H0 (upd H p o) := fun q u hq e => by
  rw [upd_ne (ne_of_none e n)]
  exact k q u hq e
theorem new_of {H0 H : Hp} {g p : Addr} {o : HO} (k : HG.Kp g H0 H) (hg : H g = some o) (n : H p = none) : H0 p = none ∨ p = g := by
  by_cases e : p = g
  · exact .inr e
  · left
    cases q : H0 p with
    | none => rfl
    | some u => rw [k p u e q] at n; cases n
theorem new0 {H0 H : Hp} {g p : Addr} {o : HO} (k : HG.Kp g H0 H) (hg : H g = some o) (n : H p = none) : H0 p = none := by
  rcases new_of k hg n with h | rfl
  · exact h
  · rw [hg] at n; cases n
theorem FS.ne {H0 H : Hp} {g c p : Addr} {ns ls : List Int} {a0 b a r : Int} (F : FS H0 g c ns a0 b H p ls) (G : HD.Gau H0 g c ns a r) : p ≠ g ∧ p ≠ c :=
  ⟨fun z => (by have := G.g; rw [← z, F.new] at this; cases this), fun z => (by have := G.c; rw [← z, F.new] at this; cases this)⟩
theorem FS.put {H0 H : Hp} {g c p : Addr} {ns ls ls' : List Int} {a0 b a r : Int} {o : HO} (F : FS H0 g c ns a0 b H p ls) (G : HD.Gau H0 g c ns a r) (e : o = .lst (ls'.map V.int)) (h : ∀ n ∈ ls', n ≠ 0 ∧ n.natAbs < big) : FS H0 g c ns a0 b (upd H p o) p ls' :=
  ⟨by rw [upd_same, e], F.new, h, kp_put F.kp F.new, let ⟨a2, r2, G2, h2⟩ := F.ga; ⟨a2, r2, G2.kp HG.Kp.at (F.ne G).1.symm (F.ne G).2.symm, h2⟩⟩
theorem FS.step {H0 H H' : Hp} {g c p : Addr} {ns ls : List Int} {a0 b b' a r a' r' : Int} (F : FS H0 g c ns a0 b H p ls) (G : HD.Gau H0 g c ns a r) (k : HG.Kp g H H') (G' : HD.Gau H' g c ns a' r') (h : a' ≤ a0 + b') : FS H0 g c ns a0 b' H' p ls :=
  ⟨k _ _ (F.ne G).1 F.at_, F.new, F.nz, F.kp.trans k, a', r', G', h⟩
theorem FS.alloc {H0 H : Hp} {g c p q : Addr} {ns ls : List Int} {a0 b a r : Int} {o : HO} (F : FS H0 g c ns a0 b H p ls) (G : HD.Gau H0 g c ns a r) (n : H q = none) : FS H0 g c ns a0 b (upd H q o) p ls :=
  let ⟨a2, r2, G2, h2⟩ := F.ga
  F.step G (HG.Kp.new n) (G2.new n) h2
/-- another list in its place -/
theorem FS.swap {H0 H : Hp} {g c p q : Addr} {ns ls ls' : List Int} {a0 b a r : Int} {o : HO} (F : FS H0 g c ns a0 b H p ls) (G : HD.Gau H0 g c ns a r) (n : H q = none) (e : o = .lst (ls'.map V.int)) (h : ∀ n ∈ ls', n ≠ 0 ∧ n.natAbs < big) : FS H0 g c ns a0 b (upd H q o) q ls' :=
  let ⟨a2, r2, G2, h2⟩ := F.ga
  ⟨by rw [upd_same, e], new0 F.kp G2.g n, h, F.kp.trans (HG.Kp.new n), a2, r2, G2.new n, h2⟩
theorem FS.wide {H0 H : Hp} {g c p : Addr} {ns ls : List Int} {a0 b b' : Int} (F : FS H0 g c ns a0 b H p ls) (h : b ≤ b') : FS H0 g c ns a0 b' H p ls := ⟨F.at_, F.new, F.nz, F.kp, let ⟨a2, r2, G2, h2⟩ := F.ga; ⟨a2, r2, G2, by omega⟩⟩
theorem ix_of {ls : List Int} {j : Int} (h0 : 0 ≤ j) (h1 : j < (ls.length : Int)) : ∃ (k : Nat) (x : Int), j = (k : Int) ∧ k < ls.length ∧ ls[k]? = some x ∧ atI (ls.map V.int) j = some (.int x) ∧ ixN (ls.map V.int).length j = some k ∧ x ∈ ls := by
  have hk : j.toNat < ls.length := by omega
  refine ⟨j.toNat, ls[j.toNat], by omega, hk, List.getElem?_eq_getElem hk, ?_, ?_, List.getElem_mem hk⟩
  · have e := atI_nat (xs := ls.map V.int) (j := j.toNat) (v := .int ls[j.toNat]) (by rw [List.getElem?_map, List.getElem?_eq_getElem hk]; rfl)
    rw [Int.toNat_of_nonneg h0] at e
    exact e
  · have e := Evl.ixN_nat (n := (ls.map V.int).length) (j := j.toNat) (by rw [List.length_map]; exact hk)
    rw [Int.toNat_of_nonneg h0] at e
    exact e
theorem mem_set {ls : List Int} {k : Nat} {x : Int} {P : Int → Prop} (h : ∀ n ∈ ls, P n) (hx : P x) : ∀ n ∈ ls.set k x, P n := fun n hn => by
  rcases List.mem_or_eq_of_mem_set hn with h2 | rfl
  · exact h n h2
  · exact hx
theorem cut_mem {ls : List Int} {lo hi : Option Int} : ∃ ms : List Int, cutV (ls.map V.int) lo hi = ms.map V.int ∧ ms.length ≤ ls.length ∧ ∀ n ∈ ms, n ∈ ls := by
  refine ⟨(ls.drop (HT.sIx (ls.map V.int).length 0 lo)).take (HT.sIx (ls.map V.int).length (ls.map V.int).length hi - HT.sIx (ls.map V.int).length 0 lo), ?_, ?_, fun n hn => List.mem_of_mem_drop (List.mem_of_mem_take hn)⟩
  · unfold cutV
    rw [List.map_take, List.map_drop]
  · rw [List.length_take, List.length_drop]
    omega
theorem erase_map : ∀ (ls : List Int) (k : Nat), (ls.map V.int).eraseIdx k = (ls.eraseIdx k).map V.int
  | [], k => by cases k <;> rfl
  | x :: r, 0 => rfl
  | x :: r, k + 1 => by
    show V.int x :: (r.map V.int).eraseIdx k = V.int x :: (r.eraseIdx k).map V.int
    rw [erase_map r k]
def spDrawn : Sp := fun vs H Q _ => ∃ g c ns a r, vs = [.ref g] ∧ HD.Gau H g c ns a r ∧ a < 800000 ∧ ∀ p ls H', ls ≠ [] → ls.length ≤ 90 → FS H g c ns a 150 H' p ls → Q (.ref p) H'
section
variable {P : Program} {w : World} {K : PySem.W.Frag} {mg : Str → Option Value} {base : Heap}
theorem ok__law_drawn (T : HG.Tp K mg "_law_drawn" s__law_drawn ["pen"]) (o__law_draw : HG.Df P w K mg base CX0 1 "_law_draw" ["pen", "many"] HD.spDraw) (o__law_one_of : HG.Df P w K mg base CX0 2 "_law_one_of" ["pen", "some"] (HD.spOne K)) (m_range : mg "range" = none) (m_len : mg "len" = none) : FnOk P w K mg base CX0 3 T.f T.fd ["pen"] spDrawn := by
  refine T.F.ok sc__law_drawn (fun vs H Q E h => ?_) (fun cdv A outer s H vs Q E hr h => ?_)
  · obtain ⟨g, c, ns, a, r, rfl, _⟩ := h
    rfl
  · obtain ⟨g, c, ns, a, r, rfl, G, ha, q⟩ := h
    refine ⟨_, (pss_cons (ps_par3 (i := 1) (j := 2) (l := 3) (by rfl) sc__law_drawn.nd rfl rfl rfl (by decide) (by decide) (by decide) rfl rfl rfl (pa_cons pe_int (pa_cons (HG.pe_c o__law_one_of hr (pa_cons (pv 0) (pa_cons (pe_lst (pa_cons pe_int (pa_cons (pe_un un_neg pe_int) pa_nil))) pa_nil))) (pa_cons (pe_lst pa_nil) pa_nil))) (by rfl))
    (Evl.pss_cut (ps_for PassesOwn.never rfl (pi_range1 rfl m_range (pa_cons (pe_ifExp (pt_cmpR op_gt (HG.pe_c o__law_draw hr (pa_cons (pv 0) (pa_cons pe_int pa_nil))) pe_int (nomark _)) (pe_op op_add pe_int (HG.pe_c o__law_draw hr (pa_cons (pv 0) (pa_cons pe_int pa_nil)))) pe_int) pa_nil)) (pg_name (i := 4) sc__law_drawn.nd rfl (Or.inl rfl))
      (pss_cons (ps_set (i := 1) sc__law_drawn.nd rfl (.inl rfl) (pe_op op_add (pv 1) (HG.pe_c o__law_one_of hr (pa_cons (pv 0) (pa_cons (pe_lst (pa_cons pe_int (pa_cons pe_int (pa_cons pe_int (pa_cons (pe_op op_pow pe_int pe_int) (pa_cons pe_int pa_nil)))))) pa_nil)))))
      (pss_cons (ps_expr (pe_bm PySem.F.plainAttrs_list PySem.F.slot_list_append PySem.F.type_list_append mt_append (pv 3) (pa_cons (pe_op op_mul (pv 1) (pv 2)) pa_nil)))
      (pss_one (ps_set (i := 2) sc__law_drawn.nd rfl (.inl rfl) (pe_un un_neg (pv 2)))))))
    (pss_cons (ps_par3 (i := 5) (j := 6) (l := 7) (by rfl) sc__law_drawn.nd rfl rfl rfl (by decide) (by decide) (by decide) rfl rfl rfl (pa_cons (HG.pe_c o__law_draw hr (pa_cons (pv 0) (pa_cons pe_int pa_nil))) (pa_cons (HG.pe_c o__law_draw hr (pa_cons (pv 0) (pa_cons (pe_callB call_len_seq (by rfl) m_len PySem.boot_len (pa_cons (pv 3) pa_nil)) pa_nil))) (pa_cons (HG.pe_c o__law_draw hr (pa_cons (pv 0) (pa_cons (pe_callB call_len_seq (by rfl) m_len PySem.boot_len (pa_cons (pv 3) pa_nil)) pa_nil))) pa_nil))) (by rfl))
    (Evl.pss_cut (ps_if (pt_cmpR op_eq (pv 5) pe_int (nomark _))
      (pss_one (ps_asg (pe_un un_neg (pe_ix ix_list (pv 3) (pv 6) (fun _ _ => rfl))) (pg_sub (pv 3) (pv 6) set_list)))
      pss_nil)
    (Evl.pss_cut (ps_if (pt_cmpR op_eq (pv 5) pe_int (nomark _))
      (pss_one (ps_asg (pe_op op_mul (pe_ix ix_list (pv 3) (pv 7) (fun _ _ => rfl)) (HG.pe_c o__law_one_of hr (pa_cons (pv 0) (pa_cons (pe_lst (pa_cons pe_int (pa_cons (pe_un un_neg pe_int) pa_nil))) pa_nil)))) (pg_sub (pv 3) (pv 6) set_list)))
      pss_nil)
    (Evl.pss_cut (ps_if (pt_cmpR op_eq (pv 5) pe_int (nomark _))
      (pss_one (ps_set (i := 3) sc__law_drawn.nd rfl (.inl rfl) (pe_op op_cat (pe_op op_cat (pe_slice sl_list (pv 3) po_none (po_some (pv 6))) (pe_slice sl_list (pv 3) (po_some (pe_op op_add (pv 6) pe_int)) po_none)) (pe_lst (pa_cons (pe_op op_mul (pe_un un_neg (pv 1)) (pv 2)) pa_nil)))))
      pss_nil)
    (Evl.pss_cut (ps_if (PW.pt (pw_and (pt_cmpR op_eq (pv 5) pe_int (nomark _)) (pw_and1 (pt_cmpR op_gt (pe_callB call_len_seq (by rfl) m_len PySem.boot_len (pa_cons (pv 3) pa_nil)) pe_int (nomark _)))))
      (pss_one (ps_expr (pe_bm PySem.F.plainAttrs_list PySem.F.slot_list_pop PySem.F.type_list_pop mt_popAt (pv 3) (pa_cons (pv 6) pa_nil))))
      pss_nil)
    (pss_cons (ps_set (i := 8) sc__law_drawn.nd rfl (.inl rfl) (pe_lst pa_nil))
    (pss_cons (ps_while PassesOwn.never (pt_cmpR (op_neD hr.units) (pv 3) (pe_lst pa_nil) (nomark _))
      (pss_one (ps_expr (pe_bm PySem.F.plainAttrs_list PySem.F.slot_list_append PySem.F.type_list_append mt_append (pv 8) (pa_cons (pe_bm PySem.F.plainAttrs_list PySem.F.slot_list_pop PySem.F.type_list_pop mt_popAt (pv 3) (pa_cons (HG.pe_c o__law_draw hr (pa_cons (pv 0) (pa_cons (pe_callB call_len_seq (by rfl) m_len PySem.boot_len (pa_cons (pv 3) pa_nil)) pa_nil))) pa_nil)) pa_nil)))))
    (pss_one (ps_ret (pv 8)))))))))))), ?_⟩
    -- amount, sign, found
    refine ⟨_, rfl, _, rfl, by show 2 ≤ sizeLine; decide, fun l nl => ?_⟩
    have lg : l ≠ g := (ne_of_none G.g nl).symm
    refine ⟨g, c, ns, a, r, l, _, rfl, G.new nl, by omega, lg, SqL.of upd_same, List.cons_ne_nil _ _, by show 2 < 1000000; decide, fun x a1 r1 H1 hx ha1 G1 k1 => ?_⟩
    obtain ⟨sg, rfl, hsg⟩ : ∃ sg : Int, x = .int sg ∧ (sg = 1 ∨ sg = -1) := by
      simp only [List.mem_cons, List.not_mem_nil, or_false] at hx
      rcases hx with rfl | rfl
      · exact ⟨1, rfl, .inl rfl⟩
      · exact ⟨-1, rfl, .inr rfl⟩
    have k01 : HG.Kp g H H1 := (HG.Kp.new nl).trans k1
    refine ⟨Nat.zero_le _, fun p np => ?_⟩
    have np0 : H p = none := new0 k01 G1.g np
    refine ⟨_, _, _, rfl, ?_⟩
    have F1 : FS H g c ns a 1 (upd H1 p (.lst [])) p [] := ⟨upd_same, np0, fun n hn => (nomatch hn), kp_put k01 np0, a1, r1, G1.new np, ha1⟩
    -- the for
    refine ⟨fun σ H2 => ∃ (am sg : Int) (ls : List Int) (y4 : Option V), σ = [some (.ref g), some (.int am), some (.int sg), some (.ref p), y4, none, none, none, none] ∧ FS H g c ns a 43 H2 p ls ∧ ls ≠ [] ∧ ls.length ≤ 40 ∧ 0 < am ∧ am ≤ 40 * 10 ^ 30 ∧ (sg = 1 ∨ sg = -1), ?_, ?_⟩
    · obtain ⟨a2, r2, G2, ha2⟩ := F1.ga
      have ng0 : p ≠ g := fun z => by have := G.g; rw [← z, np0] at this; cases this
      have nc0 : p ≠ c := fun z => by have := G.c; rw [← z, np0] at this; cases this
      refine ⟨_, rfl, g, c, ns, a2, r2, 12, rfl, G2, by decide, by decide, by omega, fun d a3 r3 H3 d0 d1 ha3 G3 k3 => ?_⟩
      refine ⟨_, _, rfl, rfl, _, rfl, ite2 (fun h => ?_) (fun h => ?_)⟩
      · refine ⟨_, rfl, g, c, ns, a3, r3, 8, rfl, G3, by decide, by decide, by omega, fun d2 a4 r4 H4 d20 d21 ha4 G4 k4 => ?_⟩
        have FB : FS H g c ns a (3 + ((0 : Nat) : Int)) H4 p [] := ⟨k4 _ _ ng0 (k3 _ _ ng0 F1.at_), np0, fun n hn => (nomatch hn), (F1.kp.trans k3).trans k4, a4, r4, G4, by omega⟩
        refine ⟨_, _, rfl, rfl, 1 + d2, rfl, by omega, by omega, for_range (n := (1 + d2).toNat) (fun i σ H2 => ∃ (am sg : Int) (ls : List Int) (y4 : Option V), σ = [some (.ref g), some (.int am), some (.int sg), some (.ref p), y4, none, none, none, none] ∧ FS H g c ns a (3 + i) H2 p ls ∧ ls.length = i ∧ 0 ≤ am ∧ (0 < i → 0 < am) ∧ am ≤ i * 10 ^ 30 ∧ (sg = 1 ∨ sg = -1))
          ⟨0, sg, [], none, rfl, FB, rfl, Int.le_refl 0, fun z => absurd z (Nat.lt_irrefl 0), Int.le_refl 0, hsg⟩ ?_ ?_⟩
        · rintro i σ H5 hi ⟨am, sg2, ls, y4, rfl, F5, hle, ham, ham1, ham2, hsg2⟩
          obtain ⟨a5, r5, G5, ha5⟩ := F5.ga
          have ng : p ≠ g := fun z => by have := G.g; rw [← z, np0] at this; cases this
          have nc : p ≠ c := fun z => by have := G.c; rw [← z, np0] at this; cases this
          refine ⟨_, rfl, _, rfl, _, _, rfl, rfl, ⟨by decide, by decide, by decide⟩, by show 5 ≤ sizeLine; decide, fun l5 nl5 => ?_⟩
          have lg5 : l5 ≠ g := (ne_of_none G5.g nl5).symm
          refine ⟨g, c, ns, a5, r5, l5, _, rfl, G5.new nl5, by omega, lg5, SqL.of upd_same, List.cons_ne_nil _ _, by show 5 < 1000000; decide, fun x a6 r6 H6 hx6 ha6 G6 k6 => ?_⟩
          obtain ⟨k, rfl, hk1, hk2⟩ : ∃ k : Int, x = .int k ∧ 1 ≤ k ∧ k ≤ 10 ^ 30 := by
            simp only [List.mem_cons, List.not_mem_nil, or_false] at hx6
            rcases hx6 with rfl | rfl | rfl | rfl | rfl
            · exact ⟨_, rfl, by decide, by decide⟩
            · exact ⟨_, rfl, by decide, by decide⟩
            · exact ⟨_, rfl, by decide, by decide⟩
            · exact ⟨_, rfl, by decide +kernel, by decide +kernel⟩
            · exact ⟨_, rfl, by decide, by decide⟩
          have k56 : HG.Kp g H5 H6 := (HG.Kp.new nl5).trans k6
          have h6 : H6 p = some (.lst (ls.map V.int)) := k56 _ _ ng F5.at_
          refine ⟨_, _, rfl, rfl, ?_⟩
          have hs2 : -(2 ^ 64) < sg2 ∧ sg2 < 2 ^ 64 := by rcases hsg2 with rfl | rfl <;> decide
          refine ⟨_, rfl, .inl ⟨rfl, _, SqL.of h6⟩, _, rfl, _, rfl, _, _, rfl, rfl, .inr hs2, p, _, _, rfl, rfl, h6, by rw [List.length_map, hle]; exact small1000 (by omega), ?_⟩
          refine ⟨_, rfl, _, rfl, ?_⟩
          have e30 : ((10 : Int) ^ 30) = 1000000000000000000000000000000 := by decide +kernel
          rw [e30] at hk2 ham2
          have ei : (((i + 1 : Nat) : Int)) = (i : Int) + 1 := by omega
          refine ⟨am + k, -sg2, ls ++ [(am + k) * sg2], _, rfl, ⟨?_, F5.new, ?_, kp_put (F5.kp.trans k56) F5.new, a6, r6, G6.kp HG.Kp.at ng.symm nc.symm, by rw [ei]; omega⟩, by rw [List.length_append, hle]; rfl, by omega, fun _ => by omega, by rw [ei, e30]; omega, by rcases hsg2 with rfl | rfl <;> decide⟩
          · rw [upd_same, List.map_append]
            rfl
          · intro n hn
            rcases List.mem_append.mp hn with h | h
            · exact F5.nz n h
            · rw [List.mem_singleton.mp h]
              have hb : big = 100000000000000000000000000000000000000000000000000 := by decide +kernel
              rw [hb]
              rcases hsg2 with rfl | rfl
              · rw [Int.mul_one]; omega
              · rw [Int.mul_neg, Int.mul_one]; omega
        · rintro σ H5 ⟨am, sg2, ls, y4, rfl, F5, hle, ham, ham1, ham2, hsg2⟩
          have e30 : ((10 : Int) ^ 30) = 1000000000000000000000000000000 := by decide +kernel
          rw [e30] at ham2
          refine ⟨am, sg2, ls, y4, rfl, ⟨F5.at_, F5.new, F5.nz, F5.kp, let ⟨a6, r6, G6, h6⟩ := F5.ga; ⟨a6, r6, G6, by omega⟩⟩, fun z => by rw [z] at hle; have : (0 : Nat) = _ := hle; omega, by omega, ham1 (by omega), by rw [e30]; omega, hsg2⟩
      · have FB : FS H g c ns a (3 + ((0 : Nat) : Int)) H3 p [] := ⟨k3 _ _ ng0 F1.at_, np0, fun n hn => (nomatch hn), F1.kp.trans k3, a3, r3, G3, by omega⟩
        refine ⟨40, rfl, by decide, by decide, for_range (n := 40) (fun i σ H2 => ∃ (am sg : Int) (ls : List Int) (y4 : Option V), σ = [some (.ref g), some (.int am), some (.int sg), some (.ref p), y4, none, none, none, none] ∧ FS H g c ns a (3 + i) H2 p ls ∧ ls.length = i ∧ 0 ≤ am ∧ (0 < i → 0 < am) ∧ am ≤ i * 10 ^ 30 ∧ (sg = 1 ∨ sg = -1))
          ⟨0, sg, [], none, rfl, FB, rfl, Int.le_refl 0, fun z => absurd z (Nat.lt_irrefl 0), Int.le_refl 0, hsg⟩ ?_ ?_⟩
        · rintro i σ H5 hi ⟨am, sg2, ls, y4, rfl, F5, hle, ham, ham1, ham2, hsg2⟩
          obtain ⟨a5, r5, G5, ha5⟩ := F5.ga
          have ng : p ≠ g := fun z => by have := G.g; rw [← z, np0] at this; cases this
          have nc : p ≠ c := fun z => by have := G.c; rw [← z, np0] at this; cases this
          refine ⟨_, rfl, _, rfl, _, _, rfl, rfl, ⟨by decide, by decide, by decide⟩, by show 5 ≤ sizeLine; decide, fun l5 nl5 => ?_⟩
          have lg5 : l5 ≠ g := (ne_of_none G5.g nl5).symm
          refine ⟨g, c, ns, a5, r5, l5, _, rfl, G5.new nl5, by omega, lg5, SqL.of upd_same, List.cons_ne_nil _ _, by show 5 < 1000000; decide, fun x a6 r6 H6 hx6 ha6 G6 k6 => ?_⟩
          obtain ⟨k, rfl, hk1, hk2⟩ : ∃ k : Int, x = .int k ∧ 1 ≤ k ∧ k ≤ 10 ^ 30 := by
            simp only [List.mem_cons, List.not_mem_nil, or_false] at hx6
            rcases hx6 with rfl | rfl | rfl | rfl | rfl
            · exact ⟨_, rfl, by decide, by decide⟩
            · exact ⟨_, rfl, by decide, by decide⟩
            · exact ⟨_, rfl, by decide, by decide⟩
            · exact ⟨_, rfl, by decide +kernel, by decide +kernel⟩
            · exact ⟨_, rfl, by decide, by decide⟩
          have k56 : HG.Kp g H5 H6 := (HG.Kp.new nl5).trans k6
          have h6 : H6 p = some (.lst (ls.map V.int)) := k56 _ _ ng F5.at_
          refine ⟨_, _, rfl, rfl, ?_⟩
          have hs2 : -(2 ^ 64) < sg2 ∧ sg2 < 2 ^ 64 := by rcases hsg2 with rfl | rfl <;> decide
          refine ⟨_, rfl, .inl ⟨rfl, _, SqL.of h6⟩, _, rfl, _, rfl, _, _, rfl, rfl, .inr hs2, p, _, _, rfl, rfl, h6, by rw [List.length_map, hle]; exact small1000 (by omega), ?_⟩
          refine ⟨_, rfl, _, rfl, ?_⟩
          have e30 : ((10 : Int) ^ 30) = 1000000000000000000000000000000 := by decide +kernel
          rw [e30] at hk2 ham2
          have ei : (((i + 1 : Nat) : Int)) = (i : Int) + 1 := by omega
          refine ⟨am + k, -sg2, ls ++ [(am + k) * sg2], _, rfl, ⟨?_, F5.new, ?_, kp_put (F5.kp.trans k56) F5.new, a6, r6, G6.kp HG.Kp.at ng.symm nc.symm, by rw [ei]; omega⟩, by rw [List.length_append, hle]; rfl, by omega, fun _ => by omega, by rw [ei, e30]; omega, by rcases hsg2 with rfl | rfl <;> decide⟩
          · rw [upd_same, List.map_append]
            rfl
          · intro n hn
            rcases List.mem_append.mp hn with h | h
            · exact F5.nz n h
            · rw [List.mem_singleton.mp h]
              have hb : big = 100000000000000000000000000000000000000000000000000 := by decide +kernel
              rw [hb]
              rcases hsg2 with rfl | rfl
              · rw [Int.mul_one]; omega
              · rw [Int.mul_neg, Int.mul_one]; omega
        · rintro σ H5 ⟨am, sg2, ls, y4, rfl, F5, hle, ham, ham1, ham2, hsg2⟩
          have e30 : ((10 : Int) ^ 30) = 1000000000000000000000000000000 := by decide +kernel
          rw [e30] at ham2
          refine ⟨am, sg2, ls, y4, rfl, ⟨F5.at_, F5.new, F5.nz, F5.kp, let ⟨a6, r6, G6, h6⟩ := F5.ga; ⟨a6, r6, G6, by omega⟩⟩, fun z => by rw [z] at hle; have : (0 : Nat) = _ := hle; omega, by omega, ham1 (by omega), by rw [e30]; omega, hsg2⟩
    · rintro σ H2 ⟨am, sg2, ls, y4, rfl, F2, hne, hle, ham, ham2, hsg2⟩
      obtain ⟨a2, r2, G2, ha2⟩ := F2.ga
      have hlp : 0 < ls.length := List.length_pos_iff.mpr hne
      have hl1 : (ls.map V.int).length = ls.length := List.length_map _
      -- way, at, other
      refine ⟨_, rfl, g, c, ns, a2, r2, 6, rfl, G2, by decide, by decide, by omega, fun wy a3 r3 H3 w0 w1 ha3 G3 k3 => ?_⟩
      have F3 : FS H g c ns a 44 H3 p ls := F2.step G k3 G3 (by omega)
      refine ⟨_, rfl, _, rfl, p, _, rfl, .inl (SqL.of F3.at_), g, c, ns, a3, r3, _, rfl, G3, by rw [hl1]; omega, by rw [hl1]; omega, by omega, fun ai a4 r4 H4 i0 i1 ha4 G4 k4 => ?_⟩
      have F4 : FS H g c ns a 45 H4 p ls := F3.step G k4 G4 (by omega)
      refine ⟨_, rfl, _, rfl, p, _, rfl, .inl (SqL.of F4.at_), g, c, ns, a4, r4, _, rfl, G4, by rw [hl1]; omega, by rw [hl1]; omega, by omega, fun oi a5 r5 H5 o0 o1 ha5 G5 k5 => ?_⟩
      have F5 : FS H g c ns a 46 H5 p ls := F4.step G k5 G5 (by omega)
      rw [hl1] at i1 o1
      refine ⟨_, _, _, rfl, ?_⟩
      -- if way == 1
      refine ⟨fun σ H2 => ∃ ls2 : List Int, σ = [some (.ref g), some (.int am), some (.int sg2), some (.ref p), y4, some (.int wy), some (.int ai), some (.int oi), none] ∧ FS H g c ns a 46 H2 p ls2 ∧ ls2.length = ls.length, ?_, ?_⟩
      · refine ⟨_, rfl, rfl, _, rfl, ite2 (fun _ => ?_) (fun _ => ⟨ls, rfl, F5, rfl⟩)⟩
        obtain ⟨k, x, ek, hk, hx, hat, hix, hmem⟩ := ix_of i0 i1
        refine ⟨_, rfl, _, rfl, p, _, _, _, rfl, rfl, SqL.of F5.at_, hat, _, rfl, _, rfl, _, rfl, p, _, _, k, rfl, rfl, F5.at_, hix, ?_⟩
        refine ⟨ls.set k (-x), rfl, F5.put G ?_ (mem_set F5.nz ?_), List.length_set⟩
        · rw [List.map_set]
        · have := F5.nz x hmem
          omega
      rintro σ H6 ⟨ls6, rfl, F6, hl6⟩
      -- if way == 2
      refine ⟨fun σ H2 => ∃ ls2 : List Int, σ = [some (.ref g), some (.int am), some (.int sg2), some (.ref p), y4, some (.int wy), some (.int ai), some (.int oi), none] ∧ FS H g c ns a 47 H2 p ls2 ∧ ls2.length = ls.length, ?_, ?_⟩
      · refine ⟨_, rfl, rfl, _, rfl, ite2 (fun _ => ?_) (fun _ => ⟨ls6, rfl, F6.wide (by omega), hl6⟩)⟩
        obtain ⟨k, x, ek, hk, hx, hat, hix, hmem⟩ := ix_of (ls := ls6) i0 (by rw [hl6]; exact i1)
        obtain ⟨k2, x2, ek2, hk2, hx2, hat2, hix2, hmem2⟩ := ix_of (ls := ls6) o0 (by rw [hl6]; exact o1)
        obtain ⟨a6, r6, G6, ha6⟩ := F6.ga
        refine ⟨_, rfl, _, rfl, p, _, _, _, rfl, rfl, SqL.of F6.at_, hat2, _, rfl, _, rfl, by show 2 ≤ sizeLine; decide, fun l7 nl7 => ?_⟩
        have lg7 : l7 ≠ g := (ne_of_none G6.g nl7).symm
        refine ⟨g, c, ns, a6, r6, l7, _, rfl, G6.new nl7, by omega, lg7, SqL.of upd_same, List.cons_ne_nil _ _, by show 2 < 1000000; decide, fun y a7 r7 H7 hy ha7 G7 k7 => ?_⟩
        have F7 : FS H g c ns a 47 H7 p ls6 := (F6.alloc G nl7).step G k7 G7 (by omega)
        obtain ⟨s7, rfl, hs7⟩ : ∃ s : Int, y = .int s ∧ (s = 1 ∨ s = -1) := by
          simp only [List.mem_cons, List.not_mem_nil, or_false] at hy
          rcases hy with rfl | rfl
          · exact ⟨1, rfl, .inl rfl⟩
          · exact ⟨-1, rfl, .inr rfl⟩
        refine ⟨_, _, rfl, rfl, .inr (by rcases hs7 with rfl | rfl <;> decide), _, rfl, _, rfl, p, _, _, k, rfl, rfl, F7.at_, hix, ?_⟩
        refine ⟨ls6.set k (x2 * s7), rfl, F7.put G ?_ (mem_set F7.nz ?_), by rw [List.length_set, hl6]⟩
        · rw [List.map_set]
        · have := F7.nz x2 hmem2
          rcases hs7 with rfl | rfl
          · rw [Int.mul_one]; exact this
          · rw [Int.mul_neg, Int.mul_one]; omega
      rintro σ H7 ⟨ls7, rfl, F7, hl7⟩
      -- if way == 3
      refine ⟨fun σ H2 => ∃ (p2 : Addr) (ls2 : List Int), σ = [some (.ref g), some (.int am), some (.int sg2), some (.ref p2), y4, some (.int wy), some (.int ai), some (.int oi), none] ∧ FS H g c ns a 47 H2 p2 ls2 ∧ ls2 ≠ [] ∧ ls2.length ≤ 90 ∧ (wy ≠ 3 → ls2.length = ls.length), ?_, ?_⟩
      · refine ⟨_, rfl, rfl, _, rfl, ite2 (fun h3 => ?_) (fun _ => ⟨p, ls7, rfl, F7, fun z => by rw [z] at hl7; have : 0 = ls.length := hl7; omega, by omega, fun _ => hl7⟩)⟩
        have e3 : wy = 3 := V.int.inj (of_decide_eq_true h3)
        refine ⟨_, rfl, _, rfl, _, rfl, p, _, rfl, SqL.of F7.at_, fun p1 np1 => ?_⟩
        have F8 := F7.alloc (o := .lst (cutV (ls7.map V.int) none (some ai))) G np1
        refine ⟨_, rfl, _, rfl, _, _, rfl, rfl, _, rfl, p, _, rfl, SqL.of F8.at_, fun p2 np2 => ?_⟩
        have F9 := F8.alloc (o := .lst (cutV (ls7.map V.int) (some (ai + 1)) none)) G np2
        obtain ⟨m1, em1, lm1, hm1⟩ := cut_mem (ls := ls7) (lo := none) (hi := some ai)
        obtain ⟨m2, em2, lm2, hm2⟩ := cut_mem (ls := ls7) (lo := some (ai + 1)) (hi := none)
        have f1 : upd (upd H7 p1 (.lst (cutV (ls7.map V.int) none (some ai)))) p2 (.lst (cutV (ls7.map V.int) (some (ai + 1)) none)) p1 = some (.lst (m1.map V.int)) := by rw [← em1]; exact HD.stay np2 upd_same
        have f2 : upd (upd H7 p1 (.lst (cutV (ls7.map V.int) none (some ai)))) p2 (.lst (cutV (ls7.map V.int) (some (ai + 1)) none)) p2 = some (.lst (m2.map V.int)) := by rw [← em2]; exact upd_same
        refine ⟨p1, p2, _, _, rfl, rfl, f1, f2, by rw [List.length_map, List.length_map]; exact Nat.le_of_lt (small1000 (by omega)), fun p3 np3 => ?_⟩
        have F10 := F9.alloc (o := .lst (m1.map V.int ++ m2.map V.int)) G np3
        refine ⟨_, rfl, _, rfl, _, rfl, _, _, rfl, rfl, .inr (by rcases hsg2 with rfl | rfl <;> decide), by show 1 ≤ sizeLine; decide, fun p4 np4 => ?_⟩
        have F11 := F10.alloc (o := .lst [.int (-am * sg2)]) G np4
        refine ⟨p3, p4, _, _, rfl, rfl, HD.stay np4 upd_same, upd_same, by rw [List.length_append, List.length_map, List.length_map]; show _ + 1 ≤ sizeLine; exact Nat.le_of_lt (small1000 (by omega)), fun p5 np5 => ?_⟩
        refine ⟨p5, m1 ++ m2 ++ [-am * sg2], rfl, F11.swap G np5 ?_ ?_, by simp, ?_, fun z => absurd e3 z⟩
        · rw [List.map_append, List.map_append]
          rfl
        · intro n hn
          rcases List.mem_append.mp hn with h | h
          · rcases List.mem_append.mp h with h | h
            · exact F7.nz n (hm1 n h)
            · exact F7.nz n (hm2 n h)
          · rw [List.mem_singleton.mp h]
            have hb : big = 100000000000000000000000000000000000000000000000000 := by decide +kernel
            have e30 : ((10 : Int) ^ 30) = 1000000000000000000000000000000 := by decide +kernel
            rw [e30] at ham2
            rw [hb]
            rcases hsg2 with rfl | rfl
            · rw [Int.mul_one]; omega
            · rw [Int.mul_neg, Int.mul_one]; omega
        · rw [List.length_append, List.length_append]
          show _ + 1 ≤ 90
          omega
      rintro σ H8 ⟨p8, ls8, rfl, F8, hne8, hl8, hw8⟩
      -- if way == 4 and len(found) > 1
      refine ⟨fun σ H2 => ∃ ls2 : List Int, σ = [some (.ref g), some (.int am), some (.int sg2), some (.ref p8), y4, some (.int wy), some (.int ai), some (.int oi), none] ∧ FS H g c ns a 47 H2 p8 ls2 ∧ ls2 ≠ [] ∧ ls2.length ≤ 90, ?_, ?_⟩
      · refine ⟨_, rfl, rfl, _, rfl, HD.iteS ⟨ls8, rfl, F8, hne8, hl8⟩ (fun h4 tl => ?_)⟩
        have e4 : wy = 4 := V.int.inj (of_decide_eq_true h4)
        refine ⟨_, rfl, p8, _, rfl, .inl (SqL.of F8.at_), _, _, rfl, rfl, _, rfl, ite2 (fun h5 => ?_) (fun _ => tl)⟩
        have h6 : (1 : Int) < ((ls8.map V.int).length : Int) := of_decide_eq_true h5
        rw [List.length_map] at h6
        obtain ⟨k, x, ek, hk, hx, hat, hix, hmem⟩ := ix_of (ls := ls8) i0 (by rw [hw8 (by omega)]; exact i1)
        refine ⟨_, rfl, .inl ⟨rfl, _, SqL.of F8.at_⟩, _, rfl, p8, _, _, k, .int x, rfl, rfl, F8.at_, by omega, by omega, (ixN_seq hix).1, by rw [List.getElem?_map, hx]; rfl, ?_⟩
        have hle := List.length_eraseIdx_of_lt hk
        refine ⟨ls8.eraseIdx k, rfl, F8.put G (by rw [erase_map]) (fun n hn => F8.nz n (List.mem_of_mem_eraseIdx hn)), fun z => by rw [z] at hle; have : 0 = ls8.length - 1 := hle; omega, by omega⟩
      rintro σ H9 ⟨ls9, rfl, F9, hne9, hl9⟩
      obtain ⟨a9, r9, G9, ha9⟩ := F9.ga
      have hl9p : 0 < ls9.length := List.length_pos_iff.mpr hne9
      -- shuffled
      refine ⟨Nat.zero_le _, fun ps nps => ?_⟩
      have F10 := F9.alloc (o := .lst []) G nps
      have S10 : FS H g c ns a 47 (upd H9 ps (.lst [])) ps [] := F9.swap G nps rfl (fun n hn => (nomatch hn))
      have nep : p8 ≠ ps := ne_of_none F9.at_ nps
      refine ⟨fun m σ H2 => ∃ lf lsh : List Int, σ = [some (.ref g), some (.int am), some (.int sg2), some (.ref p8), y4, some (.int wy), some (.int ai), some (.int oi), some (.ref ps)] ∧ FS H g c ns a (47 + lsh.length) H2 p8 lf ∧ FS H g c ns a (47 + lsh.length) H2 ps lsh ∧ lf.length + lsh.length = ls9.length ∧ m = lf.length,
        ⟨ls9.length, ls9, [], rfl, F10.wide (by show (47 : Int) ≤ 47 + ((0 : Nat) : Int); omega), S10.wide (by show (47 : Int) ≤ 47 + ((0 : Nat) : Int); omega), rfl, rfl⟩, ?_⟩
      rintro m σ HA ⟨lf, lsh, rfl, FA, SA, hsum, rfl⟩
      refine ⟨_, rfl, Nat.zero_le _, fun e0 ne0 => ?_⟩
      have FB := FA.alloc (o := .lst []) G ne0
      have SB := SA.alloc (o := .lst []) G ne0
      refine ⟨.list (lf.map PyData.int), .list [], .lst (SqL.of FB.at_) (HD.dp_ints lf), .lst (SqL.of upd_same) .nil, HD.shaped_ints lf, rfl, _, rfl, ?_⟩
      rw [neqv_nil]
      refine ite2 (fun hn => ?_) (fun hn => ?_)
      · have hnl : lf ≠ [] := of_decide_eq_true hn
        have hlp2 : 0 < lf.length := List.length_pos_iff.mpr hnl
        refine ⟨_, fun σ' H' h => h, ?_⟩
        obtain ⟨aB, rB, GB, haB⟩ := FB.ga
        refine ⟨_, rfl, .inl ⟨rfl, _, SqL.of SB.at_⟩, _, rfl, .inl ⟨rfl, _, SqL.of FB.at_⟩, _, rfl, _, rfl, p8, _, rfl, .inl (SqL.of FB.at_), g, c, ns, aB, rB, _, rfl, GB, by rw [List.length_map]; omega, by rw [List.length_map]; omega, by omega, fun d aC rC HC d0 d1 haC GC kC => ?_⟩
        rw [List.length_map] at d1
        have FC : FS H g c ns a (47 + lsh.length + 1) HC p8 lf := FB.step G kC GC (by omega)
        have SC : FS H g c ns a (47 + lsh.length + 1) HC ps lsh := SB.step G kC GC (by omega)
        obtain ⟨k, x, ek, hk, hx, hat, hix, hmem⟩ := ix_of (ls := lf) d0 d1
        refine ⟨p8, _, _, k, .int x, rfl, rfl, FC.at_, by omega, by omega, (ixN_seq hix).1, by rw [List.getElem?_map, hx]; rfl, ?_⟩
        have FD : FS H g c ns a (47 + lsh.length + 1) (upd HC p8 (.lst ((lf.map V.int).eraseIdx k))) p8 (lf.eraseIdx k) := FC.put G (by rw [erase_map]) (fun n hn => FC.nz n (List.mem_of_mem_eraseIdx hn))
        have hs1 : upd HC p8 (.lst ((lf.map V.int).eraseIdx k)) ps = some (.lst (lsh.map V.int)) := by rw [upd_ne nep.symm]; exact SC.at_
        refine ⟨ps, _, _, rfl, rfl, hs1, by rw [List.length_map]; exact small1000 (by omega), ?_⟩
        have hle := List.length_eraseIdx_of_lt hk
        have SD : FS H g c ns a (47 + lsh.length + 1) (upd HC p8 (.lst ((lf.map V.int).eraseIdx k))) ps lsh := ⟨hs1, SC.new, SC.nz, kp_put FC.kp FC.new, FD.ga⟩
        have e47 : (47 : Int) + (lsh.length : Int) + 1 = 47 + ((lsh ++ [x]).length : Int) := by rw [List.length_append]; show _ = (47 : Int) + ((lsh.length + 1 : Nat) : Int); omega
        have SE : FS H g c ns a (47 + lsh.length + 1) (upd (upd HC p8 (.lst ((lf.map V.int).eraseIdx k))) ps (.lst (lsh.map V.int ++ [.int x]))) ps (lsh ++ [x]) := SD.put G (by rw [List.map_append]; rfl) (fun n hn => by
          rcases List.mem_append.mp hn with h | h
          · exact SC.nz n h
          · rw [List.mem_singleton.mp h]; exact FC.nz x hmem)
        have FE : FS H g c ns a (47 + lsh.length + 1) (upd (upd HC p8 (.lst ((lf.map V.int).eraseIdx k))) ps (.lst (lsh.map V.int ++ [.int x]))) p8 (lf.eraseIdx k) := ⟨by rw [upd_ne nep]; exact FD.at_, FD.new, FD.nz, SE.kp, SE.ga⟩
        rw [e47] at SE FE
        exact ⟨_, by omega, lf.eraseIdx k, lsh ++ [x], rfl, FE, SE, by rw [List.length_append, hle]; show lf.length - 1 + (lsh.length + 1) = ls9.length; omega, rfl⟩
      · have el : lf = [] := Classical.not_not.mp (fun z => hn (decide_eq_true z))
        subst el
        have hs3 : lsh.length = ls9.length := by have h0 : 0 + lsh.length = ls9.length := hsum; omega
        refine ⟨_, rfl, ?_⟩
        exact q ps lsh _ (fun z => by rw [z] at hs3; have : 0 = ls9.length := hs3; omega) (by omega) (SB.wide (by omega))
end
end K14
namespace K14
open PySem PySem.Spec PyProof.Rows L2
abbrev s_law : Stmt := topS 17
theorem sc_law : FnScope ["script", "pen", "turn", "labels", "odd", "caught", "error", "kept", "due"] ["script"] (defScope s_law) := ⟨rfl, rfl, rfl, by decide +kernel, rfl, by decide +kernel, by decide +kernel⟩
theorem shows_ints {ls : List Int} (h : ∀ n ∈ ls, n ≠ 0 ∧ n.natAbs < big) (hl : ls.length ≤ 90) : HE.Shows (.list (ls.map PyData.int)) := by
  have h1 : ∀ l : List Int, (∀ n ∈ l, n.natAbs < big) → PyData.showableAll (l.map PyData.int) = true ∧ PyData.hasDictAll (l.map PyData.int) = false ∧ PyData.depthAll (l.map PyData.int) = 0 ∧ ((PyData.shownAll (l.map PyData.int)).map (·.length)).sum ≤ 51 * l.length ∧ (PyData.shownAll (l.map PyData.int)).length = l.length := by
    intro l
    induction l with
    | nil => intro _; exact ⟨rfl, rfl, rfl, Nat.le_refl _, rfl⟩
    | cons x r ih =>
      intro hx
      obtain ⟨i1, i2, i3, i4, i5⟩ := ih (fun n hn => hx n (List.mem_cons_of_mem _ hn))
      have hb := hx x List.mem_cons_self
      have e1 : PyData.showable (.int x) = true := decide_eq_true (HD.log_of (HD.small_pow200 hb))
      have e2 : (PyData.shown (.int x)).length ≤ 51 := by
        have e := int_text_length_le10 (k := 50) (by decide) (show x.natAbs < 10 ^ 50 from hb)
        show (Str.ofString (toString x)).length ≤ 51
        rw [PySem.ofString_length]
        exact e
      rw [List.map_cons]
      refine ⟨?_, ?_, ?_, ?_, ?_⟩
      · simp only [PyData.showableAll, e1, i1, Bool.and_self]
      · simp only [PyData.hasDictAll, PyData.hasDict, i2, Bool.or_self]
      · simp only [PyData.depthAll, PyData.depth, i3]
        rfl
      · simp only [PyData.shownAll, List.map_cons, List.sum_cons, List.length_cons]
        omega
      · simp only [PyData.shownAll, List.length_cons, i5]
  obtain ⟨i1, i2, i3, i4, i5⟩ := h1 ls (fun n hn => (h n hn).2)
  refine ⟨?_, ?_, ?_, ?_⟩
  · simp only [PyData.showable, i1]
  · simp only [PyData.hasDict, i2]
  · simp only [PyData.depth, i3]
    decide
  · have e := listText_len_le (PyData.shownAll (ls.map PyData.int))
    rw [i5] at e
    show (listText (PyData.shownAll (ls.map PyData.int))).length ≤ sizeLine
    rw [sizeLine_eq]
    omega
def ansD : V → PyData
  | .str s => .str s
  | _ => .none
theorem ans_cases (S : List Int) : ansS S = .non ∨ ansS S = .str "+" ∨ ansS S = .str "-" := by
  cases S with
  | nil => exact .inl rfl
  | cons x r =>
    show (if (adj (x :: r)).all id = true then signV x else V.non) = V.non ∨ (if (adj (x :: r)).all id = true then signV x else V.non) = V.str "+" ∨ (if (adj (x :: r)).all id = true then signV x else V.non) = V.str "-"
    by_cases h : (adj (x :: r)).all id = true
    · rw [if_pos h]
      unfold signV
      by_cases h2 : decide (0 < x) = true
      · rw [if_pos h2]; exact .inr (.inl rfl)
      · rw [if_neg h2]; exact .inr (.inr rfl)
    · rw [if_neg h]; exact .inl rfl
theorem ans_dp {K : PySem.W.Frag} {H : Hp} (S : List Int) : Dp K H (ansS S) (ansD (ansS S)) := by
  rcases ans_cases S with e | e | e <;> rw [e]
  · exact .non
  · exact .str _
  · exact .str _
theorem ans_shows (S : List Int) : HE.Shows (.list [ansD (ansS S), ansD (ansS S), ansD (ansS S)]) := by
  rcases ans_cases S with e | e | e <;> rw [e] <;> exact ⟨rfl, rfl, by decide, by decide +kernel⟩
theorem any_pv {H : Hp} {g : Addr} {v : V} (a : HD.AnyV H g v) : PV H v := by
  rcases a with a | a | a | a | ⟨p, e, _, b⟩
  · exact .inl a
  · exact .inr (.inl a)
  · exact .inr (.inr (.inl a))
  · exact .inr (.inr (.inr (.inl a)))
  · exact .inr (.inr (.inr (.inr ⟨p, e, b⟩)))
/-- a value that is no list of labels -/
def Odd (H : Hp) (g : Addr) (x : V) : Prop := x = .non ∨ (∃ i, x = .int i) ∨ (∃ b, x = .bl b) ∨ (∃ s, x = .str s) ∨ ∃ p, x = .ref p ∧ p ≠ g ∧ ((∃ k, H p = some (.dK k)) ∨ ∃ xs, (H p = some (.lst xs) ∨ H p = some (.tup xs)) ∧ xs.length ≤ 1000 ∧ (∀ y ∈ xs, HD.AnyV H g y) ∧ (!xs.isEmpty && xs.all labV) = false)
theorem Odd.kp {H H' : Hp} {g : Addr} {x : V} (a : Odd H g x) (k : HG.Kp g H H') : Odd H' g x := by
  rcases a with a | a | a | a | ⟨p, e, n, ⟨d, h⟩ | ⟨xs, h, l, hy, hb⟩⟩
  · exact .inl a
  · exact .inr (.inl a)
  · exact .inr (.inr (.inl a))
  · exact .inr (.inr (.inr (.inl a)))
  · exact .inr (.inr (.inr (.inr ⟨p, e, n, .inl ⟨d, k _ _ n h⟩⟩)))
  · exact .inr (.inr (.inr (.inr ⟨p, e, n, .inr ⟨xs, h.elim (fun h => .inl (k _ _ n h)) (fun h => .inr (k _ _ n h)), l, fun y h2 => (hy y h2).kp k, hb⟩⟩)))
theorem Odd.pv {H : Hp} {g : Addr} {x : V} (a : Odd H g x) : PV H x := by
  rcases a with a | a | a | a | ⟨p, e, n, ⟨d, h⟩ | ⟨xs, h, _, _, _⟩⟩
  · exact .inr (.inl a)
  · exact .inl a
  · exact .inr (.inr (.inl a))
  · exact .inr (.inr (.inr (.inl a)))
  · exact .inr (.inr (.inr (.inr ⟨p, e, .inr (.inr ⟨d, h⟩)⟩)))
  · exact .inr (.inr (.inr (.inr ⟨p, e, h.elim (fun h => .inl ⟨xs, h⟩) (fun h => .inr (.inl ⟨xs, h⟩))⟩)))
theorem Odd.bad {H : Hp} {g : Addr} {x : V} (a : Odd H g x) : BadV H x := by
  rcases a with rfl | ⟨i, rfl⟩ | ⟨b, rfl⟩ | ⟨s, rfl⟩ | ⟨p, rfl, n, ⟨d, h⟩ | ⟨xs, h, l, hy, hb⟩⟩
  · exact .inl (fun ⟨_, _, e, _⟩ => nomatch e)
  · exact .inl (fun ⟨_, _, e, _⟩ => nomatch e)
  · exact .inl (fun ⟨_, _, e, _⟩ => nomatch e)
  · exact .inl (fun ⟨_, _, e, _⟩ => nomatch e)
  · refine .inl (fun ⟨q, _, e, h2⟩ => ?_)
    cases e
    rw [h] at h2
    rcases h2 with h2 | h2 <;> cases h2
  · exact .inr ⟨p, xs, rfl, h, l, fun y h2 => any_pv (hy y h2), hb⟩
theorem odd_seq {H : Hp} {g p : Addr} {xs : List V} (n : p ≠ g) (h : H p = some (.lst xs) ∨ H p = some (.tup xs)) (l : xs.length ≤ 1000) (hy : ∀ y ∈ xs, HD.AnyV H g y) (hb : (!xs.isEmpty && xs.all labV) = false) : Odd H g (.ref p) :=
  .inr (.inr (.inr (.inr ⟨p, rfl, n, .inr ⟨xs, h, l, hy, hb⟩⟩)))
theorem any_one {H : Hp} {g : Addr} {a : V} (h : HD.AnyV H g a) : ∀ y ∈ [a], HD.AnyV H g y := fun y hy => by
  rcases List.mem_cons.mp hy with rfl | hy
  · exact h
  · exact absurd hy List.not_mem_nil
theorem any_cons {H : Hp} {g : Addr} {a : V} {xs : List V} (h : HD.AnyV H g a) (hx : ∀ y ∈ xs, HD.AnyV H g y) : ∀ y ∈ a :: xs, HD.AnyV H g y := fun y hy => by
  rcases List.mem_cons.mp hy with rfl | hy
  · exact h
  · exact hx y hy
theorem any_ints {H : Hp} {g : Addr} {ls : List Int} : ∀ y ∈ ls.map V.int, HD.AnyV H g y := fun y hy => by
  obtain ⟨n, _, e⟩ := List.mem_map.mp hy
  exact .inl ⟨n, e.symm⟩
theorem any_app {H : Hp} {g : Addr} {xs ys : List V} (h : ∀ y ∈ xs, HD.AnyV H g y) (hy : ∀ y ∈ ys, HD.AnyV H g y) : ∀ y ∈ xs ++ ys, HD.AnyV H g y := fun y q => by
  rcases List.mem_append.mp q with q | q
  · exact h y q
  · exact hy y q
theorem bad_in {xs : List V} {x : V} (m : x ∈ xs) (h : labV x = false) : (!xs.isEmpty && xs.all labV) = false := by
  have e : xs.all labV = false := by
    cases q : xs.all labV with
    | false => rfl
    | true =>
      rw [List.all_eq_true] at q
      rw [q x m] at h
      cases h
  rw [e, Bool.and_false]
theorem gau_grow {H H' : Hp} {g c : Addr} {ns : List Int} {a r : Int} (G : HD.Gau H g c ns a r) (k : Grow H H') : HD.Gau H' g c ns a r := ⟨k _ _ G.g, k _ _ G.c, G.a0, G.r0, G.len⟩
def g1 {α : Type} (us ws : List α) : List α := ws
def spLaw (K : PySem.W.Frag) : Sp := fun vs H Q _ => ∃ (a : Addr) (ns : List Int), vs = [.ref a] ∧ SqL K H a (ns.map V.int) ∧ ns.length ≤ 63 ∧ ∀ H', Q (.bl true) H'
section
variable {P : Program} {w : World} {K : PySem.W.Frag} {mg : Str → Option Value} {base : Heap}
theorem ok_law (T : HG.Tp K mg "law" s_law ["script"]) (e_BadLabels : HX.Er P w K mg base "BadLabels") {S : Addr} (m_StairError : mg "StairError" = some (.ref S)) (hex : PySem.W.exmOne K (.ref e_BadLabels.C) (.ref S) = some true) (hki : PySem.W.kitOne K (.ref e_BadLabels.C) (.ref e_BadLabels.C) = some true)
    (o_by_turns : HG.Df P w K mg base (L2.CX P w) 3 "by_turns" ["labels"] (spBy e_BadLabels.C)) (kbt : KBn K o_by_turns.fd ["labels"] 0 ["labels"] g1 g1)
    (o__law_pen : HG.Df P w K mg base CX0 1 "_law_pen" ["script"] (HD.spGauge K)) (o__law_one_of : HG.Df P w K mg base CX0 2 "_law_one_of" ["pen", "some"] (HD.spOne K)) (o__law_by_turns : HG.Df P w K mg base CX0 1 "_law_by_turns" ["labels"] spOwn)
    (o__law_drawn : HG.Df P w K mg base CX0 3 "_law_drawn" ["pen"] spDrawn) (m_range : mg "range" = none) (m_repr : mg "repr" = none) (m_tuple : mg "tuple" = none) (m_isinstance : mg "isinstance" = none) : HG.FnG P w K mg base CX0 4 T.f T.fd ["script"] (spLaw K) := by
  refine HG.fn_g0 T.F sc_law (fun vs H Q E h => ?_) (fun cdv A outer s H vs Q E hg hr h => ?_)
  · obtain ⟨a, ns, rfl, _⟩ := h
    rfl
  · obtain ⟨a, ns, rfl, hS, hlen, q⟩ := h
    refine ⟨_, (pss_cons (ps_set (i := 1) sc_law.nd rfl (.inl rfl) (HG.pe_c o__law_pen hr (pa_cons (pv 0) pa_nil)))
    (pss_cons (ps_for PassesOwn.never rfl (pi_range1 rfl m_range (pa_cons pe_int pa_nil)) (pg_name (i := 2) sc_law.nd rfl (Or.inl rfl))
      (pss_cons (ps_set (i := 3) sc_law.nd rfl (.inl rfl) (HG.pe_c o__law_drawn hr (pa_cons (pv 1) pa_nil)))
      (pss_cons (ps_par (i := 7) (j := 8) (by rfl) sc_law.nd rfl rfl (by decide) rfl rfl (pa_cons (pe_callB (HG.call_repr hg hr.units) (by rfl) m_repr (by decide +kernel) (pa_cons (pv 3) pa_nil)) (pa_cons (HG.pe_c o__law_by_turns hr (pa_cons (pv 3) pa_nil)) pa_nil)) (by rfl))
      (pss_cons (ps_if (PW.pt (pw_or (pt_cmpR op_ne (pe_callB (HG.call_repr hg hr.units) (by rfl) m_repr (by decide +kernel) (pa_cons (pe_lst (pa_cons (HG.pe_cL o_by_turns hr (pa_cons (pv 3) pa_nil)) (pa_cons (HG.pe_cL o_by_turns hr (pa_cons (pe_callTy call_tuple_of (by rfl) m_tuple (by decide +kernel) (pa_cons (pv 3) pa_nil)) pa_nil)) (pa_cons (HG.pe_cKL0 o_by_turns kbt hr (pk_cons (pv 3) pk_nil)) pa_nil)))) pa_nil)) (pe_callB (HG.call_repr hg hr.units) (by rfl) m_repr (by decide +kernel) (pa_cons (pe_op op_rep (pe_lst (pa_cons (pv 8) pa_nil)) pe_int) pa_nil)) (nomark _)) (pw_or1 (pt_cmpR op_ne (pe_callB (HG.call_repr hg hr.units) (by rfl) m_repr (by decide +kernel) (pa_cons (pv 3) pa_nil)) (pv 7) (nomark _)))))
        (pss_one (ps_ret pe_bl))
        pss_nil)
      (pss_cons (ps_set (i := 4) sc_law.nd rfl (.inl rfl) (HG.pe_c o__law_one_of hr (pa_cons (pv 1) (pa_cons (pe_lst (pa_cons pe_non (pa_cons (pe_lst pa_nil) (pa_cons (pe_tup pa_nil) (pa_cons pe_int (pa_cons pe_str (pa_cons pe_bl (pa_cons pe_dnewK (pa_cons (pe_lst (pa_cons pe_int pa_nil)) (pa_cons (pe_lst (pa_cons pe_int (pa_cons pe_int pa_nil))) (pa_cons (pe_op op_cat (pv 3) (pe_lst (pa_cons pe_int pa_nil))) (pa_cons (pe_op op_cat (pv 3) (pe_lst (pa_cons pe_bl pa_nil))) (pa_cons (pe_op op_cat (pv 3) (pe_lst (pa_cons pe_non pa_nil))) (pa_cons (pe_op op_cat (pe_lst (pa_cons pe_str pa_nil)) (pv 3)) (pa_cons (pe_lst (pa_cons (pv 3) pa_nil)) (pa_cons (pe_lst (pa_cons pe_bl pa_nil)) pa_nil)))))))))))))))) pa_nil))))
      (pss_cons (ps_set (i := 5) sc_law.nd rfl (.inl rfl) pe_non)
      (pss_cons (HX.ps_try_keep (i := 6) rfl rfl rfl sc_law.nd rfl rfl ⟨by rfl, by decide, .inl m_StairError⟩ (fun W pn xe tk _ =>
        (pss_one (ps_expr (HG.pe_cS o_by_turns hr tk (pa_cons (pv 4) pa_nil))))) (fun a oe cls d pn _ _ =>
        (pss_one (ps_set (i := 5) sc_law.nd rfl (.inl rfl) (pv 6)))))
      (pss_one (ps_if (PW.pt (pw_or (pt_not (pt_val (pe_callB HX.call_isU (by rfl) m_isinstance (by decide +kernel) (pa_cons (pv 5) (pa_cons (pe_glob (v := .ref e_BadLabels.C) (by rfl) e_BadLabels.m rfl) pa_nil))))) (pw_or1 (pt_cmpR op_ne (HX.pe_err (pv 5)) pe_str (nomark _)))))
        (pss_one (ps_ret pe_bl))
        pss_nil)))))))))
    (pss_one (ps_ret pe_bl)))), ?_⟩
    refine ⟨_, rfl, a, ns, rfl, hS, hlen, fun g c ms H1 ng nc G k1 => ?_⟩
    refine ⟨6, rfl, by decide, by decide, for_range (n := 6) (fun i σ H2 => ∃ y2 y3 y4 y5 y6 y7 y8, σ = [some (.ref a), some (.ref g), y2, y3, y4, y5, y6, y7, y8] ∧ ∃ at_ r, HD.Gau H2 g c ms at_ r ∧ at_ ≤ 200 * i)
      ⟨none, none, none, none, none, none, none, rfl, 0, 0, G, by omega⟩ ?_ ?_⟩
    · rintro i σ H2 hi ⟨y2, y3, y4, y5, y6, y7, y8, rfl, at_, r, G2, ha⟩
      -- labels
      refine ⟨_, rfl, g, c, ms, at_, r, rfl, G2, by omega, fun p ls H3 hne hle F3 => ?_⟩
      obtain ⟨a3, r3, G3, ha3⟩ := F3.ga
      have hp3 := F3.at_
      have hs := shows_ints F3.nz hle
      have hv3 : PV H3 (.ref p) := .inr (.inr (.inr (.inr ⟨p, rfl, .inl ⟨_, hp3⟩⟩)))
      have png : p ≠ g := (F3.ne G2).1
      -- kept, due
      refine ⟨_, rfl, .ref p, .list (ls.map PyData.int), rfl, .lst (SqL.of hp3) (HD.dp_ints ls), hs.s, hs.n, hs.p, hs.z, ?_⟩
      refine ⟨_, rfl, p, ls, rfl, hp3, by omega, fun H4 g4 => ?_⟩
      refine ⟨_, _, rfl, ?_⟩
      have nz : ∀ n ∈ ls, n ≠ 0 := fun n hn => (F3.nz n hn).1
      have good : ∀ {HX : Hp}, Grow H4 HX → HX p = some (.lst (ls.map V.int)) := fun k => k _ _ (g4 _ _ hp3)
      -- the three answers
      refine ⟨_, rfl, .ref p, rfl, hv3.grow g4, .inl ⟨p, ls, rfl, .inl (g4 _ _ hp3), hne, nz, by omega, fun H5 g5 => ?_⟩⟩
      refine ⟨_, rfl, p, _, rfl, .inl ⟨SqL.of (good g5), fun t nt => ?_⟩⟩
      refine ⟨.ref t, rfl, .inr (.inr (.inr (.inr ⟨t, rfl, .inr (.inl ⟨_, upd_same⟩)⟩))), .inl ⟨t, ls, rfl, .inr upd_same, hne, nz, by omega, fun H6 g6 => ?_⟩⟩
      have g46 : Grow H4 H6 := (g5.trans (Grow.new nt)).trans g6
      refine ⟨_, rfl, rfl, rfl, .ref p, rfl, (hv3.grow g4).grow g46, .inl ⟨p, ls, rfl, .inl (good g46), hne, nz, by omega, fun H7 g7 => ?_⟩⟩
      refine ⟨by show 3 ≤ sizeLine; decide, fun l nl => ?_⟩
      have hd := ans_shows (HS.sortAbs ls)
      refine ⟨.ref l, .list [ansD (ansS (HS.sortAbs ls)), ansD (ansS (HS.sortAbs ls)), ansD (ansS (HS.sortAbs ls))], rfl, .lst (SqL.of upd_same) (.cons (ans_dp _) (.cons (ans_dp _) (.cons (ans_dp _) .nil))), hd.s, hd.n, hd.p, hd.z, ?_⟩
      refine ⟨_, rfl, by show 1 ≤ sizeLine; decide, fun l2 nl2 => ?_⟩
      refine ⟨l2, 3, _, rfl, rfl, upd_same, by decide, by decide, by show 1 * 3 ≤ sizeLine; decide, fun l3 nl3 => ?_⟩
      refine ⟨.ref l3, .list [ansD (ansS (HS.sortAbs ls)), ansD (ansS (HS.sortAbs ls)), ansD (ansS (HS.sortAbs ls))], rfl, .lst (SqL.of upd_same) (.cons (ans_dp _) (.cons (ans_dp _) (.cons (ans_dp _) .nil))), hd.s, hd.n, hd.p, hd.z, ?_⟩
      refine ⟨rfl, _, rfl, ?_⟩
      rw [show ∀ z : Str, (!decide (V.str z = V.str z)) = false from fun z => by rw [decide_eq_true rfl]; rfl]
      refine iteF ?_
      have g48 := ((g46.trans g7).trans (Grow.new nl)).trans ((Grow.new nl2).trans (Grow.new (o := .lst (List.replicate (3 : Int).toNat [ansS (HS.sortAbs ls)]).flatten) nl3))
      refine ⟨_, rfl, .ref p, .list (ls.map PyData.int), rfl, .lst (SqL.of (good g48)) (HD.dp_ints ls), hs.s, hs.n, hs.p, hs.z, ?_⟩
      refine ⟨_, rfl, rfl, ?_⟩
      rw [show ∀ z : Str, (!decide (V.str z = V.str z)) = false from fun z => by rw [decide_eq_true rfl]; rfl]
      refine ⟨false, rfl, iteF ?_⟩
      have HG0 := g48
      revert HG0
      generalize (upd (upd (upd H7 l (HO.lst [ansS (HS.sortAbs ls), ansS (HS.sortAbs ls), ansS (HS.sortAbs ls)])) l2 (HO.lst [ansS (HS.sortAbs ls)])) l3 (HO.lst (List.replicate (3 : Int).toNat [ansS (HS.sortAbs ls)]).flatten)) = H8
      intro g8
      have hp8 := good g8
      have G8 : HD.Gau H8 g c ms a3 r3 := gau_grow G3 (g4.trans g8)
      have hg8 := G8.g
      -- odd
      refine ⟨_, rfl, by decide, fun p1 n1 => ⟨by decide, fun p2 n2 => fun p3 n3 => ⟨by show 1 ≤ sizeLine; decide, fun p4 n4 => ⟨by show 2 ≤ sizeLine; decide, fun p5 n5 => ?_⟩⟩⟩⟩
      refine ⟨_, rfl, by show 1 ≤ sizeLine; decide, fun p6 n6 => ⟨p, p6, _, _, rfl, rfl, (by repeat (first | exact upd_same | exact hp8 | refine HD.stay (by assumption) ?_)), upd_same, by simp only [List.length_map, List.length_cons, List.length_nil]; rw [sizeLine_eq]; omega, fun p7 n7 => ?_⟩⟩
      refine ⟨_, rfl, by show 1 ≤ sizeLine; decide, fun p8 n8 => ⟨p, p8, _, _, rfl, rfl, (by repeat (first | exact upd_same | exact hp8 | refine HD.stay (by assumption) ?_)), upd_same, by simp only [List.length_map, List.length_cons, List.length_nil]; rw [sizeLine_eq]; omega, fun p9 n9 => ?_⟩⟩
      refine ⟨_, rfl, by show 1 ≤ sizeLine; decide, fun pa na => ⟨p, pa, _, _, rfl, rfl, (by repeat (first | exact upd_same | exact hp8 | refine HD.stay (by assumption) ?_)), upd_same, by simp only [List.length_map, List.length_cons, List.length_nil]; rw [sizeLine_eq]; omega, fun pb nb => ?_⟩⟩
      refine ⟨by show 1 ≤ sizeLine; decide, fun pc nc => ⟨_, rfl, pc, p, _, _, rfl, rfl, upd_same, (by repeat (first | exact upd_same | exact hp8 | refine HD.stay (by assumption) ?_)), by simp only [List.length_map, List.length_cons, List.length_nil]; rw [sizeLine_eq]; omega, fun pd nd => ?_⟩⟩
      refine ⟨_, rfl, by show 1 ≤ sizeLine; decide, fun pe ne => ⟨by show 1 ≤ sizeLine; decide, fun pf nf => ⟨by show 15 ≤ sizeLine; decide, fun L nL => ?_⟩⟩⟩
      refine ⟨g, c, ms, a3, r3, L, _, rfl, ⟨(by repeat (first | exact upd_same | exact hg8 | refine HD.stay (by assumption) ?_)), (by repeat (first | exact upd_same | exact G8.c | refine HD.stay (by assumption) ?_)), G8.a0, G8.r0, G8.len⟩, by omega, (ne_of_none (o := .lst [.ref c, .int a3, .int r3]) (by repeat (first | exact upd_same | exact hg8 | refine HD.stay (by assumption) ?_)) nL).symm, SqL.of upd_same, by simp, by simp, fun x a9 r9 H9 hx ha9 G9 k9 => ?_⟩
      have ox : Odd H9 g x := by
        refine Odd.kp ?_ k9
        rcases List.mem_cons.mp hx with e | hx
        · rw [e]
          exact .inl rfl
        rcases List.mem_cons.mp hx with e | hx
        · rw [e]
          exact odd_seq (ne_of_none (o := .lst [.ref c, .int a3, .int r3]) (by repeat (first | exact upd_same | exact hg8 | refine HD.stay (by assumption) ?_)) n1).symm (.inl (by repeat (first | exact upd_same | refine HD.stay (by assumption) ?_))) (by show 0 ≤ 1000; decide) (fun y hy => absurd hy List.not_mem_nil) rfl
        rcases List.mem_cons.mp hx with e | hx
        · rw [e]
          exact odd_seq (ne_of_none (o := .lst [.ref c, .int a3, .int r3]) (by repeat (first | exact upd_same | exact hg8 | refine HD.stay (by assumption) ?_)) n2).symm (.inr (by repeat (first | exact upd_same | refine HD.stay (by assumption) ?_))) (by show 0 ≤ 1000; decide) (fun y hy => absurd hy List.not_mem_nil) rfl
        rcases List.mem_cons.mp hx with e | hx
        · rw [e]
          exact .inr (.inl ⟨_, rfl⟩)
        rcases List.mem_cons.mp hx with e | hx
        · rw [e]
          exact .inr (.inr (.inr (.inl ⟨_, rfl⟩)))
        rcases List.mem_cons.mp hx with e | hx
        · rw [e]
          exact .inr (.inr (.inl ⟨_, rfl⟩))
        rcases List.mem_cons.mp hx with e | hx
        · rw [e]
          exact .inr (.inr (.inr (.inr ⟨p3, rfl, (ne_of_none (o := .lst [.ref c, .int a3, .int r3]) (by repeat (first | exact upd_same | exact hg8 | refine HD.stay (by assumption) ?_)) n3).symm, .inl ⟨_, (by repeat (first | exact upd_same | refine HD.stay (by assumption) ?_))⟩⟩)))
        rcases List.mem_cons.mp hx with e | hx
        · rw [e]
          exact odd_seq (ne_of_none (o := .lst [.ref c, .int a3, .int r3]) (by repeat (first | exact upd_same | exact hg8 | refine HD.stay (by assumption) ?_)) n4).symm (.inl (by repeat (first | exact upd_same | refine HD.stay (by assumption) ?_))) (by show 1 ≤ 1000; decide) (any_one (.inl ⟨_, rfl⟩)) rfl
        rcases List.mem_cons.mp hx with e | hx
        · rw [e]
          exact odd_seq (ne_of_none (o := .lst [.ref c, .int a3, .int r3]) (by repeat (first | exact upd_same | exact hg8 | refine HD.stay (by assumption) ?_)) n5).symm (.inl (by repeat (first | exact upd_same | refine HD.stay (by assumption) ?_))) (by show 2 ≤ 1000; decide) (any_cons (.inl ⟨_, rfl⟩) (any_one (.inl ⟨_, rfl⟩))) rfl
        rcases List.mem_cons.mp hx with e | hx
        · rw [e]
          exact odd_seq (ne_of_none (o := .lst [.ref c, .int a3, .int r3]) (by repeat (first | exact upd_same | exact hg8 | refine HD.stay (by assumption) ?_)) n7).symm (.inl (by repeat (first | exact upd_same | refine HD.stay (by assumption) ?_))) (by simp only [List.length_append, List.length_map, List.length_cons, List.length_nil]; omega) (any_app any_ints (any_one (.inl ⟨_, rfl⟩))) (bad_in (List.mem_append_right _ List.mem_cons_self) rfl)
        rcases List.mem_cons.mp hx with e | hx
        · rw [e]
          exact odd_seq (ne_of_none (o := .lst [.ref c, .int a3, .int r3]) (by repeat (first | exact upd_same | exact hg8 | refine HD.stay (by assumption) ?_)) n9).symm (.inl (by repeat (first | exact upd_same | refine HD.stay (by assumption) ?_))) (by simp only [List.length_append, List.length_map, List.length_cons, List.length_nil]; omega) (any_app any_ints (any_one (.inr (.inr (.inl ⟨_, rfl⟩))))) (bad_in (List.mem_append_right _ List.mem_cons_self) rfl)
        rcases List.mem_cons.mp hx with e | hx
        · rw [e]
          exact odd_seq (ne_of_none (o := .lst [.ref c, .int a3, .int r3]) (by repeat (first | exact upd_same | exact hg8 | refine HD.stay (by assumption) ?_)) nb).symm (.inl (by repeat (first | exact upd_same | refine HD.stay (by assumption) ?_))) (by simp only [List.length_append, List.length_map, List.length_cons, List.length_nil]; omega) (any_app any_ints (any_one (.inr (.inl rfl)))) (bad_in (List.mem_append_right _ List.mem_cons_self) rfl)
        rcases List.mem_cons.mp hx with e | hx
        · rw [e]
          exact odd_seq (ne_of_none (o := .lst [.ref c, .int a3, .int r3]) (by repeat (first | exact upd_same | exact hg8 | refine HD.stay (by assumption) ?_)) nd).symm (.inl (by repeat (first | exact upd_same | refine HD.stay (by assumption) ?_))) (by simp only [List.length_append, List.length_map, List.length_cons, List.length_nil]; omega) (any_app (any_one (.inr (.inr (.inr (.inl ⟨_, rfl⟩))))) any_ints) (bad_in (List.mem_append_left _ List.mem_cons_self) rfl)
        rcases List.mem_cons.mp hx with e | hx
        · rw [e]
          exact odd_seq (ne_of_none (o := .lst [.ref c, .int a3, .int r3]) (by repeat (first | exact upd_same | exact hg8 | refine HD.stay (by assumption) ?_)) ne).symm (.inl (by repeat (first | exact upd_same | refine HD.stay (by assumption) ?_))) (by show 1 ≤ 1000; decide) (any_one (.inr (.inr (.inr (.inr ⟨p, rfl, png, .inl ⟨_, (by repeat (first | exact hp8 | refine HD.stay (by assumption) ?_))⟩⟩))))) rfl
        rcases List.mem_cons.mp hx with e | hx
        · rw [e]
          exact odd_seq (ne_of_none (o := .lst [.ref c, .int a3, .int r3]) (by repeat (first | exact upd_same | exact hg8 | refine HD.stay (by assumption) ?_)) nf).symm (.inl (by repeat (first | exact upd_same | refine HD.stay (by assumption) ?_))) (by show 1 ≤ 1000; decide) (any_one (.inr (.inr (.inl ⟨_, rfl⟩)))) rfl
        exact absurd hx List.not_mem_nil
      refine ⟨_, rfl, x, rfl, ox.pv, .inr ⟨ox.bad, fun d HE kE nd hd => ⟨hex, fun ea na => ?_⟩⟩⟩
      refine ⟨_, rfl, fun na' => ?_⟩
      have he : upd HE ea (HX.errO ea (.ref e_BadLabels.C) (some d)) ea = some (HX.errO ea (.ref e_BadLabels.C) (some d)) := upd_same
      have hd' : upd HE ea (HX.errO ea (.ref e_BadLabels.C) (some d)) d = some (.xd [("part", .str "labels")]) := HD.stay na hd
      refine ⟨_, rfl, .inr ⟨ea, e_BadLabels.C, d, _, .ref e_BadLabels.C, .ref e_BadLabels.C, true, rfl, he, hd', e_BadLabels.err, ClsV.own _, hki, ?_⟩⟩
      refine ⟨true, rfl, iteF ?_⟩
      refine ⟨_, rfl, ea, e_BadLabels.C, d, _, .str "labels", rfl, he, hd', e_BadLabels.err, e_BadLabels.no, rfl, ?_⟩
      refine ⟨rfl, ?_⟩
      refine ⟨false, by rw [decide_eq_true rfl]; rfl, iteF ?_⟩
      have k10 : Grow H9 (upd HE ea (HX.errO ea (.ref e_BadLabels.C) (some d))) := fun q u e => HD.stay na (kE q u e)
      exact ⟨_, _, _, _, _, _, _, rfl, a9, r9, gau_grow G9 k10, by omega⟩
    · rintro σ H2 ⟨y2, y3, y4, y5, y6, y7, y8, rfl, _⟩
      exact q _
end
end K14
namespace K14
open PySem PySem.Spec PyProof.Rows L2
abbrev s_BadLabels_init : Stmt := inClass (topS 5) 0
theorem sc_BadLabels_init : FnScope ["self", "part"] ["self", "part"] (defScope s_BadLabels_init) := ⟨rfl, rfl, rfl, by decide +kernel, rfl, by decide +kernel, by decide +kernel⟩
theorem ok_BadLabels_init {P : Program} {w : World} {K : PySem.W.Frag} {mg : Str → Option Value} {base : Heap} {C fI : Addr} {fd : FuncData} (F : Fun K "__init__" "BadLabels.__init__" s_BadLabels_init fI fd) (R : HX.Row K C fI) : FnOk P w K mg base CX0 1 fI fd ["self", "part"] (HX.spPart C) := by
  refine F.ok sc_BadLabels_init (fun vs H Q E h => ?_) (fun cdv A outer s H vs Q E hr h => ?_)
  · obtain ⟨a, v, rfl, _⟩ := h
    rfl
  · obtain ⟨a, v, rfl, ha, q⟩ := h
    exact ⟨_, pss_one (ps_ost (pv 0) (pv 1)), ⟨_, rfl, _, rfl, a, C, rfl, R.oex, R.no, .inl ⟨ha, fun dx n ne => q dx n ne⟩⟩⟩
theorem all_mk {l : PySem.W.OpenLaw} {w : World} {K : PySem.W.Frag} {h : Heap} {mg : Str → Option Value} {fa f0 f1 f2 f3 f4 f5 f6 f7 f8 f9 f10 f11 S0 C0 g0 : Addr} (X : K.In h) (G : h.Ns mainGlobals mg) (hfa : mg "law" = some (.ref fa))
    {od0 an0 : Option Addr} {sl0 : Array (Option Value)} {oc0 kV0 dc0 pm0 cd0 ct0 : Value} {od1 an1 : Option Addr} {sl1 : Array (Option Value)} {oc1 kV1 dc1 pm1 cd1 ct1 : Value} {od2 an2 : Option Addr} {sl2 : Array (Option Value)} {oc2 kV2 dc2 pm2 cd2 ct2 : Value} {od3 an3 : Option Addr} {sl3 : Array (Option Value)} {oc3 kV3 dc3 pm3 cd3 ct3 : Value} {od4 an4 : Option Addr} {sl4 : Array (Option Value)} {oc4 kV4 dc4 pm4 cd4 ct4 : Value} {od5 an5 : Option Addr} {sl5 : Array (Option Value)} {oc5 kV5 dc5 pm5 cd5 ct5 : Value} {od6 an6 : Option Addr} {sl6 : Array (Option Value)} {oc6 kV6 dc6 pm6 cd6 ct6 : Value} {od7 an7 : Option Addr} {sl7 : Array (Option Value)} {oc7 kV7 dc7 pm7 cd7 ct7 : Value} {od8 an8 : Option Addr} {sl8 : Array (Option Value)} {oc8 kV8 dc8 pm8 cd8 ct8 : Value} {od9 an9 : Option Addr} {sl9 : Array (Option Value)} {oc9 kV9 dc9 pm9 cd9 ct9 : Value} {od10 an10 : Option Addr} {sl10 : Array (Option Value)} {oc10 kV10 dc10 pm10 cd10 ct10 : Value} {od11 an11 : Option Addr} {sl11 : Array (Option Value)} {oc11 kV11 dc11 pm11 cd11 ct11 : Value}
    {nm0 q0 : Str} {N0 : Addr} {bs0 : List Value} {sn0 : List Str} {sub0 : List Value} {ab0 : Bool} {col0 : Option Bool} {dd0 : Option Addr} {ma0 mb0 mc0 md0 me0 : Option Value} {od_0 an_0 : Option Addr} {sl_0 : Array (Option Value)} {oc_0 kV_0 dc_0 pm_0 cd_0 ct_0 : Value}
    (a0 : PySem.W.nsIn K mainGlobals "is_integer" = some (some (.ref f0))) (l0 : K.lookup f0 = some ⟨oc0, od0, .func (PySem.W.fnOf "is_integer" "is_integer" (defArgs s_is_integer) (defBody s_is_integer) (defScope s_is_integer) .none kV0 dc0 pm0 an0 cd0 ct0), sl0⟩) (c0 : PySem.W.codeIn K cd0 "is_integer" = true) (k0 : PySem.W.keepIn K (.ref f0) = true)
    (a1 : PySem.W.nsIn K mainGlobals "is_list" = some (some (.ref f1))) (l1 : K.lookup f1 = some ⟨oc1, od1, .func (PySem.W.fnOf "is_list" "is_list" (defArgs s_is_list) (defBody s_is_list) (defScope s_is_list) .none kV1 dc1 pm1 an1 cd1 ct1), sl1⟩) (c1 : PySem.W.codeIn K cd1 "is_list" = true) (k1 : PySem.W.keepIn K (.ref f1) = true)
    (a2 : PySem.W.nsIn K mainGlobals "are_labels" = some (some (.ref f2))) (l2 : K.lookup f2 = some ⟨oc2, od2, .func (PySem.W.fnOf "are_labels" "are_labels" (defArgs s_are_labels) (defBody s_are_labels) (defScope s_are_labels) .none kV2 dc2 pm2 an2 cd2 ct2), sl2⟩) (c2 : PySem.W.codeIn K cd2 "are_labels" = true) (k2 : PySem.W.keepIn K (.ref f2) = true)
    (a3 : PySem.W.nsIn K mainGlobals "is_turn" = some (some (.ref f3))) (l3 : K.lookup f3 = some ⟨oc3, od3, .func (PySem.W.fnOf "is_turn" "is_turn" (defArgs s_is_turn) (defBody s_is_turn) (defScope s_is_turn) .none kV3 dc3 pm3 an3 cd3 ct3), sl3⟩) (c3 : PySem.W.codeIn K cd3 "is_turn" = true) (k3 : PySem.W.keepIn K (.ref f3) = true)
    (a4 : PySem.W.nsIn K mainGlobals "turns_among" = some (some (.ref f4))) (l4 : K.lookup f4 = some ⟨oc4, od4, .func (PySem.W.fnOf "turns_among" "turns_among" (defArgs s_turns_among) (defBody s_turns_among) (defScope s_turns_among) .none kV4 dc4 pm4 an4 cd4 ct4), sl4⟩) (c4 : PySem.W.codeIn K cd4 "turns_among" = true) (k4 : PySem.W.keepIn K (.ref f4) = true)
    (a5 : PySem.W.nsIn K mainGlobals "by_turns" = some (some (.ref f5))) (l5 : K.lookup f5 = some ⟨oc5, od5, .func (PySem.W.fnOf "by_turns" "by_turns" (defArgs s_by_turns) (defBody s_by_turns) (defScope s_by_turns) .none kV5 dc5 pm5 an5 cd5 ct5), sl5⟩) (c5 : PySem.W.codeIn K cd5 "by_turns" = true) (k5 : PySem.W.keepIn K (.ref f5) = true)
    (a6 : PySem.W.nsIn K mainGlobals "_law_pen" = some (some (.ref f6))) (l6 : K.lookup f6 = some ⟨oc6, od6, .func (PySem.W.fnOf "_law_pen" "_law_pen" (defArgs s__law_pen) (defBody s__law_pen) (defScope s__law_pen) .none kV6 dc6 pm6 an6 cd6 ct6), sl6⟩) (c6 : PySem.W.codeIn K cd6 "_law_pen" = true) (k6 : PySem.W.keepIn K (.ref f6) = true)
    (a7 : PySem.W.nsIn K mainGlobals "_law_draw" = some (some (.ref f7))) (l7 : K.lookup f7 = some ⟨oc7, od7, .func (PySem.W.fnOf "_law_draw" "_law_draw" (defArgs s__law_draw) (defBody s__law_draw) (defScope s__law_draw) .none kV7 dc7 pm7 an7 cd7 ct7), sl7⟩) (c7 : PySem.W.codeIn K cd7 "_law_draw" = true) (k7 : PySem.W.keepIn K (.ref f7) = true)
    (a8 : PySem.W.nsIn K mainGlobals "_law_one_of" = some (some (.ref f8))) (l8 : K.lookup f8 = some ⟨oc8, od8, .func (PySem.W.fnOf "_law_one_of" "_law_one_of" (defArgs s__law_one_of) (defBody s__law_one_of) (defScope s__law_one_of) .none kV8 dc8 pm8 an8 cd8 ct8), sl8⟩) (c8 : PySem.W.codeIn K cd8 "_law_one_of" = true) (k8 : PySem.W.keepIn K (.ref f8) = true)
    (a9 : PySem.W.nsIn K mainGlobals "_law_by_turns" = some (some (.ref f9))) (l9 : K.lookup f9 = some ⟨oc9, od9, .func (PySem.W.fnOf "_law_by_turns" "_law_by_turns" (defArgs s__law_by_turns) (defBody s__law_by_turns) (defScope s__law_by_turns) .none kV9 dc9 pm9 an9 cd9 ct9), sl9⟩) (c9 : PySem.W.codeIn K cd9 "_law_by_turns" = true) (k9 : PySem.W.keepIn K (.ref f9) = true)
    (a10 : PySem.W.nsIn K mainGlobals "_law_drawn" = some (some (.ref f10))) (l10 : K.lookup f10 = some ⟨oc10, od10, .func (PySem.W.fnOf "_law_drawn" "_law_drawn" (defArgs s__law_drawn) (defBody s__law_drawn) (defScope s__law_drawn) .none kV10 dc10 pm10 an10 cd10 ct10), sl10⟩) (c10 : PySem.W.codeIn K cd10 "_law_drawn" = true) (k10 : PySem.W.keepIn K (.ref f10) = true)
    (a11 : PySem.W.nsIn K mainGlobals "law" = some (some (.ref f11))) (l11 : K.lookup f11 = some ⟨oc11, od11, .func (PySem.W.fnOf "law" "law" (defArgs s_law) (defBody s_law) (defScope s_law) .none kV11 dc11 pm11 an11 cd11 ct11), sl11⟩) (c11 : PySem.W.codeIn K cd11 "law" = true) (k11 : PySem.W.keepIn K (.ref f11) = true)
    (pa0 : PySem.W.nsIn K mainGlobals "StairError" = some (some (.ref S0))) (pe0 : PySem.W.subIn K (.ref S0) (.type "BaseException") = some true) (pi0 : PySem.W.isClsIn K S0 = true) (pt0 : PySem.W.typeIn K (.ref S0) = some (.type "type"))
    (xa0 : PySem.W.nsIn K mainGlobals "BadLabels" = some (some (.ref C0)))
    (xl0 : K.lookup C0 = some (excClassObj nm0 q0 C0 N0 bs0 [.ref S0, .type "ValueError", .type "Exception", .type "BaseException", .type "object"] true sn0 sub0 ab0 col0 dd0 ma0 mb0 mc0 md0 me0 "ValueError.__new__"))
    (xs0 : PySem.W.findIn K (.ref C0) "__setattr__" = some (some (.builtin "object.__setattr__")))
    (xg0 : PySem.W.findIn K (.ref C0) "__getattribute__" = some (some (.builtin "BaseException.__getattribute__")))
    (xh0 : PySem.W.findIn K (.ref C0) "__getattr__" = some none)
    (xc0 : PySem.W.findIn K (.ref C0) "__class__" = some (some (.builtin "object.__class__")))
    (xn0 : PySem.W.findIn K (.ref C0) "part" = some none)
    (xi0 : PySem.W.findIn K (.ref C0) "__init__" = some (some (.ref g0)))
    (xt0 : PySem.W.typeIn K (.ref g0) = some (.type "function"))
    (xj0 : K.lookup g0 = some ⟨oc_0, od_0, .func (PySem.W.fnOf "__init__" "BadLabels.__init__" (defArgs s_BadLabels_init) (defBody s_BadLabels_init) (defScope s_BadLabels_init) .none kV_0 dc_0 pm_0 an_0 cd_0 ct_0), sl_0⟩)
    (xk0 : PySem.W.codeIn K cd_0 "BadLabels.__init__" = true)
    (xm0 : PySem.W.keepIn K (.ref g0) = true)
    (xe0 : PySem.W.subIn K (.ref C0) (.type "BaseException") = some true)
    (xf0 : PySem.W.typeIn K (.ref C0) = some (.type "type"))
    (xo0 : PySem.W.keepIn K (.ref C0) = true)
    (xd0 : PySem.W.hasDictIn K C0 = true)
    (xp0 : PySem.W.isClsIn K C0 = true)
    (xq0 : PySem.W.subIn K (.ref C0) (.type "object") = some true)
    (xr0 : PySem.W.subIn K (.ref C0) (.ref S0) = some true)
    (xu0 : PySem.W.specialIn K (.builtin "object.__class__") "__get__" = some (some (.builtin "getset_descriptor.__get__")))
    (xv0 : PySem.W.takesIn K (.builtin "object.__class__") = some true)
    (z_abs : PySem.W.nsIn K mainGlobals "abs" = some none)
    (z_all : PySem.W.nsIn K mainGlobals "all" = some none)
    (z_bool : PySem.W.nsIn K mainGlobals "bool" = some none)
    (z_int : PySem.W.nsIn K mainGlobals "int" = some none)
    (z_isinstance : PySem.W.nsIn K mainGlobals "isinstance" = some none)
    (z_len : PySem.W.nsIn K mainGlobals "len" = some none)
    (z_list : PySem.W.nsIn K mainGlobals "list" = some none)
    (z_min : PySem.W.nsIn K mainGlobals "min" = some none)
    (z_range : PySem.W.nsIn K mainGlobals "range" = some none)
    (z_repr : PySem.W.nsIn K mainGlobals "repr" = some none)
    (z_sorted : PySem.W.nsIn K mainGlobals "sorted" = some none)
    (z_tuple : PySem.W.nsIn K mainGlobals "tuple" = some none)
    : ∃ fd : FuncData, (∀ (s : Shared) (v : Value), BindsTo s fd ⟨[v], []⟩ [("script", v)]) ∧ ∀ base : Heap, K.In base → base.Ns mainGlobals mg → HG.FnG l.prog w K mg base CX0 4 fa fd ["script"] (spLaw K) := by
  cases hfa.symm.trans (PySem.W.mg_of X G a11)
  have T_is_integer : { T : HG.Tp K mg "is_integer" s_is_integer ["value"] // T.f = f0 ∧ T.fd = PySem.W.fnOf "is_integer" "is_integer" (defArgs s_is_integer) (defBody s_is_integer) (defScope s_is_integer) .none kV0 dc0 pm0 an0 cd0 ct0 } := ⟨HG.tp_mk X G a0 l0 c0 k0 (fun _ _ _ _ _ _ us hl => match us, hl with | [_], _ => rfl), rfl, rfl⟩
  have T_is_list : { T : HG.Tp K mg "is_list" s_is_list ["value"] // T.f = f1 ∧ T.fd = PySem.W.fnOf "is_list" "is_list" (defArgs s_is_list) (defBody s_is_list) (defScope s_is_list) .none kV1 dc1 pm1 an1 cd1 ct1 } := ⟨HG.tp_mk X G a1 l1 c1 k1 (fun _ _ _ _ _ _ us hl => match us, hl with | [_], _ => rfl), rfl, rfl⟩
  have T_are_labels : { T : HG.Tp K mg "are_labels" s_are_labels ["value"] // T.f = f2 ∧ T.fd = PySem.W.fnOf "are_labels" "are_labels" (defArgs s_are_labels) (defBody s_are_labels) (defScope s_are_labels) .none kV2 dc2 pm2 an2 cd2 ct2 } := ⟨HG.tp_mk X G a2 l2 c2 k2 (fun _ _ _ _ _ _ us hl => match us, hl with | [_], _ => rfl), rfl, rfl⟩
  have T_is_turn : { T : HG.Tp K mg "is_turn" s_is_turn ["lesser", "label"] // T.f = f3 ∧ T.fd = PySem.W.fnOf "is_turn" "is_turn" (defArgs s_is_turn) (defBody s_is_turn) (defScope s_is_turn) .none kV3 dc3 pm3 an3 cd3 ct3 } := ⟨HG.tp_mk X G a3 l3 c3 k3 (fun _ _ _ _ _ _ us hl => match us, hl with | [_, _], _ => rfl), rfl, rfl⟩
  have T_turns_among : { T : HG.Tp K mg "turns_among" s_turns_among ["told"] // T.f = f4 ∧ T.fd = PySem.W.fnOf "turns_among" "turns_among" (defArgs s_turns_among) (defBody s_turns_among) (defScope s_turns_among) .none kV4 dc4 pm4 an4 cd4 ct4 } := ⟨HG.tp_mk X G a4 l4 c4 k4 (fun _ _ _ _ _ _ us hl => match us, hl with | [_], _ => rfl), rfl, rfl⟩
  have T_by_turns : { T : HG.Tp K mg "by_turns" s_by_turns ["labels"] // T.f = f5 ∧ T.fd = PySem.W.fnOf "by_turns" "by_turns" (defArgs s_by_turns) (defBody s_by_turns) (defScope s_by_turns) .none kV5 dc5 pm5 an5 cd5 ct5 } := ⟨HG.tp_mk X G a5 l5 c5 k5 (fun _ _ _ _ _ _ us hl => match us, hl with | [_], _ => rfl), rfl, rfl⟩
  have T__law_pen : { T : HG.Tp K mg "_law_pen" s__law_pen ["script"] // T.f = f6 ∧ T.fd = PySem.W.fnOf "_law_pen" "_law_pen" (defArgs s__law_pen) (defBody s__law_pen) (defScope s__law_pen) .none kV6 dc6 pm6 an6 cd6 ct6 } := ⟨HG.tp_mk X G a6 l6 c6 k6 (fun _ _ _ _ _ _ us hl => match us, hl with | [_], _ => rfl), rfl, rfl⟩
  have T__law_draw : { T : HG.Tp K mg "_law_draw" s__law_draw ["pen", "many"] // T.f = f7 ∧ T.fd = PySem.W.fnOf "_law_draw" "_law_draw" (defArgs s__law_draw) (defBody s__law_draw) (defScope s__law_draw) .none kV7 dc7 pm7 an7 cd7 ct7 } := ⟨HG.tp_mk X G a7 l7 c7 k7 (fun _ _ _ _ _ _ us hl => match us, hl with | [_, _], _ => rfl), rfl, rfl⟩
  have T__law_one_of : { T : HG.Tp K mg "_law_one_of" s__law_one_of ["pen", "some"] // T.f = f8 ∧ T.fd = PySem.W.fnOf "_law_one_of" "_law_one_of" (defArgs s__law_one_of) (defBody s__law_one_of) (defScope s__law_one_of) .none kV8 dc8 pm8 an8 cd8 ct8 } := ⟨HG.tp_mk X G a8 l8 c8 k8 (fun _ _ _ _ _ _ us hl => match us, hl with | [_, _], _ => rfl), rfl, rfl⟩
  have T__law_by_turns : { T : HG.Tp K mg "_law_by_turns" s__law_by_turns ["labels"] // T.f = f9 ∧ T.fd = PySem.W.fnOf "_law_by_turns" "_law_by_turns" (defArgs s__law_by_turns) (defBody s__law_by_turns) (defScope s__law_by_turns) .none kV9 dc9 pm9 an9 cd9 ct9 } := ⟨HG.tp_mk X G a9 l9 c9 k9 (fun _ _ _ _ _ _ us hl => match us, hl with | [_], _ => rfl), rfl, rfl⟩
  have T__law_drawn : { T : HG.Tp K mg "_law_drawn" s__law_drawn ["pen"] // T.f = f10 ∧ T.fd = PySem.W.fnOf "_law_drawn" "_law_drawn" (defArgs s__law_drawn) (defBody s__law_drawn) (defScope s__law_drawn) .none kV10 dc10 pm10 an10 cd10 ct10 } := ⟨HG.tp_mk X G a10 l10 c10 k10 (fun _ _ _ _ _ _ us hl => match us, hl with | [_], _ => rfl), rfl, rfl⟩
  have T_law : { T : HG.Tp K mg "law" s_law ["script"] // T.f = fa ∧ T.fd = PySem.W.fnOf "law" "law" (defArgs s_law) (defBody s_law) (defScope s_law) .none kV11 dc11 pm11 an11 cd11 ct11 } := ⟨HG.tp_mk X G a11 l11 c11 k11 (fun _ _ _ _ _ _ us hl => match us, hl with | [_], _ => rfl), rfl, rfl⟩
  have m_abs := PySem.W.mg_none_of X G z_abs
  have m_all := PySem.W.mg_none_of X G z_all
  have m_bool := PySem.W.mg_none_of X G z_bool
  have m_int := PySem.W.mg_none_of X G z_int
  have m_isinstance := PySem.W.mg_none_of X G z_isinstance
  have m_len := PySem.W.mg_none_of X G z_len
  have m_list := PySem.W.mg_none_of X G z_list
  have m_min := PySem.W.mg_none_of X G z_min
  have m_range := PySem.W.mg_none_of X G z_range
  have m_repr := PySem.W.mg_none_of X G z_repr
  have m_sorted := PySem.W.mg_none_of X G z_sorted
  have m_tuple := PySem.W.mg_none_of X G z_tuple
  have m_StairError := PySem.W.mg_of X G pa0
  have R_BadLabels : HX.Row K C0 g0 := ⟨⟨_, _, _, _, _, _, _, _, _, _, _, _, _, _, _, xl0, by rfl⟩, xs0, xg0, xh0, xc0, xn0, xi0, xt0, xe0, xf0, xo0, xd0, xp0, xq0, xu0, xv0⟩
  have I_BadLabels := fun_mk (st := s_BadLabels_init) xj0 xk0 xm0
  have B_BadLabels := I_BadLabels.binds (ps := ["self", "part"]) (fun _ _ _ _ _ _ us hl => match us, hl with | [_, _], _ => rfl)
  have x_BadLabels := HX.exm_of (C := C0) pe0 pi0 pt0 xr0
  refine ⟨PySem.W.fnOf "law" "law" (defArgs s_law) (defBody s_law) (defScope s_law) .none kV11 dc11 pm11 an11 cd11 ct11, fun s v => .of_eq rfl, fun base _ _ => ?_⟩
  let e_BadLabels : HX.Er l.prog w K mg base "BadLabels" := R_BadLabels.er (PySem.W.mg_of X G xa0) B_BadLabels (ok_BadLabels_init I_BadLabels R_BadLabels)
  let o_is_integer := T_is_integer.1.df (base := base) (P := l.prog) (w := w) (ok_is_integer T_is_integer.1 m_isinstance m_int m_bool)
  let o_is_list := T_is_list.1.df (base := base) (P := l.prog) (w := w) (ok_is_list T_is_list.1 m_isinstance m_list m_tuple)
  let o_are_labels := T_are_labels.1.df (ok_are_labels T_are_labels.1 o_is_list o_is_integer m_len m_all)
  let o_is_turn := T_is_turn.1.df (base := base) (P := l.prog) (w := w) (ok_is_turn T_is_turn.1 m_abs)
  let o_turns_among := T_turns_among.1.df (ok_turns_among T_turns_among.1 o_is_turn m_len m_all m_sorted m_abs m_range)
  let o_by_turns := T_by_turns.1.df (ok_by_turns T_by_turns.1 o_are_labels o_turns_among e_BadLabels)
  let o__law_pen := T__law_pen.1.df (base := base) (P := l.prog) (w := w) (ok__law_pen T__law_pen.1 m_int)
  let o__law_draw := T__law_draw.1.df (base := base) (P := l.prog) (w := w) (ok__law_draw T__law_draw.1 m_int m_len m_abs)
  let o__law_one_of := T__law_one_of.1.df (ok__law_one_of T__law_one_of.1 o__law_draw m_len)
  let o__law_by_turns := T__law_by_turns.1.df (base := base) (P := l.prog) (w := w) (ok__law_by_turns T__law_by_turns.1 m_abs m_len m_list m_min)
  let o__law_drawn := T__law_drawn.1.df (ok__law_drawn T__law_drawn.1 o__law_draw o__law_one_of m_range m_len)
  have kbt := HG.kbn (ks := ["labels"]) 0 T_by_turns.1 g1 (fun _ r => r) (fun _ _ _ _ _ _ us ws l1 l2 => match us, ws, l1, l2 with | [], [_], _, _ => rfl)
  have res := ok_law T_law.1 e_BadLabels m_StairError x_BadLabels HX.kit_self o_by_turns kbt o__law_pen o__law_one_of o__law_by_turns o__law_drawn m_range m_repr m_tuple m_isinstance
  have e := res
  rw [T_law.2.1, T_law.2.2] at e
  exact e
end K14
open PySem PySem.W PyProof.Rows
set_option maxHeartbeats 0 in
theorem PySem.Challenge.cw_roomstair_k14_labels_by_turns_holds : PySem.Challenge.rw_roomstair_k14_labels_by_turns.Holds := by
  w_on; o_law; k_head; (case hw => w_witness2)
  k_fill
  refine HG.walk_g (l := PySem.Challenge.rw_roomstair_k14_labels_by_turns) (n := 63) (k := 4) (x := "script") (CX := fun _ => L2.CX0) (sp := fun w => K14.spLaw _) rfl (by decide) rfl ⟨rfl, by decide, by decide⟩ (fun w h Y => PySem.W.kIn_of Y) ?F (fun _ _ a ns hl _ hS => ⟨a, ns, rfl, hS, hl, fun _ => rfl⟩) (fun _ _ _ _ _ h => h)
  case F =>
    intro w mg fa h KX G hmg
    refine' K14.all_mk KX G hmg ?a0 ?l0 ?c0 ?k0 ?a1 ?l1 ?c1 ?k1 ?a2 ?l2 ?c2 ?k2 ?a3 ?l3 ?c3 ?k3 ?a4 ?l4 ?c4 ?k4 ?a5 ?l5 ?c5 ?k5 ?a6 ?l6 ?c6 ?k6 ?a7 ?l7 ?c7 ?k7 ?a8 ?l8 ?c8 ?k8 ?a9 ?l9 ?c9 ?k9 ?a10 ?l10 ?c10 ?k10 ?a11 ?l11 ?c11 ?k11 ?pa0 ?pe0 ?pi0 ?pt0 ?xa0 ?xl0 ?xs0 ?xg0 ?xh0 ?xc0 ?xn0 ?xi0 ?xt0 ?xj0 ?xk0 ?xm0 ?xe0 ?xf0 ?xo0 ?xd0 ?xp0 ?xq0 ?xr0 ?xu0 ?xv0 ?z_abs ?z_all ?z_bool ?z_int ?z_isinstance ?z_len ?z_list ?z_min ?z_range ?z_repr ?z_sorted ?z_tuple
    (case a0 => k_is); (case l0 => k_is); (case c0 => k_is); (case k0 => k_is); (case a1 => k_is); (case l1 => k_is); (case c1 => k_is); (case k1 => k_is); (case a2 => k_is); (case l2 => k_is); (case c2 => k_is); (case k2 => k_is); (case a3 => k_is); (case l3 => k_is); (case c3 => k_is); (case k3 => k_is); (case a4 => k_is); (case l4 => k_is); (case c4 => k_is); (case k4 => k_is); (case a5 => k_is); (case l5 => k_is); (case c5 => k_is); (case k5 => k_is); (case a6 => k_is); (case l6 => k_is); (case c6 => k_is); (case k6 => k_is); (case a7 => k_is); (case l7 => k_is); (case c7 => k_is); (case k7 => k_is); (case a8 => k_is); (case l8 => k_is); (case c8 => k_is); (case k8 => k_is); (case a9 => k_is); (case l9 => k_is); (case c9 => k_is); (case k9 => k_is); (case a10 => k_is); (case l10 => k_is); (case c10 => k_is); (case k10 => k_is); (case a11 => k_is); (case l11 => k_is); (case c11 => k_is); (case k11 => k_is); (case pa0 => first | k_is | rfl); (case pe0 => first | k_is | rfl); (case pi0 => first | k_is | rfl); (case pt0 => first | k_is | rfl); (case xa0 => first | k_is | rfl); (case xl0 => first | k_is | rfl); (case xs0 => first | k_is | rfl); (case xg0 => first | k_is | rfl); (case xh0 => first | k_is | rfl); (case xc0 => first | k_is | rfl); (case xn0 => first | k_is | rfl); (case xi0 => first | k_is | rfl); (case xt0 => first | k_is | rfl); (case xj0 => first | k_is | rfl); (case xk0 => first | k_is | rfl); (case xm0 => first | k_is | rfl); (case xe0 => first | k_is | rfl); (case xf0 => first | k_is | rfl); (case xo0 => first | k_is | rfl); (case xd0 => first | k_is | rfl); (case xp0 => first | k_is | rfl); (case xq0 => first | k_is | rfl); (case xr0 => first | k_is | rfl); (case xu0 => first | k_is | rfl); (case xv0 => first | k_is | rfl); (case z_abs => k_is); (case z_all => k_is); (case z_bool => k_is); (case z_int => k_is); (case z_isinstance => k_is); (case z_len => k_is); (case z_list => k_is); (case z_min => k_is); (case z_range => k_is); (case z_repr => k_is); (case z_sorted => k_is); (case z_tuple => k_is)
